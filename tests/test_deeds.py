"""Deeds (point 3), tests (point 4) and the folds of point 5."""

import unittest

from weavepull.deeds import all_done, all_hold, folded

MOST = 1000002


class DeedTests(unittest.TestCase):
    def made(self, deed, item):
        return all_done((deed,), item)

    def test_add(self):
        for item, number, want in (
            (3, 4, 7), (0, 0, 0), (5, 0, 5), (0, MOST, MOST), (MOST, 0, MOST),
            (MOST, 1, 0), (1, MOST, 0), (MOST, MOST, 1000001), (500001, 500002, 0), (500001, 500001, MOST),
        ):
            self.assertEqual(self.made(("add", number), item), want, (item, number))

    def test_times(self):
        for item, number, want in (
            (3, 4, 12), (0, 7, 0), (7, 0, 0), (7, 1, 7), (1, MOST, MOST), (MOST, MOST, 1), (MOST, 2, 1000001),
            (1000, 1000, 1000000), (1000, 1001, 997), (1001, 1001, 1998),
        ):
            self.assertEqual(self.made(("times", number), item), want, (item, number))

    def test_minus(self):
        for item, want in ((0, 0), (1, MOST), (MOST, 1), (3, 1000000), (500001, 500002)):
            self.assertEqual(self.made(("minus",), item), want, item)

    def test_first_and_second(self):
        for pair in ((1, 2), (0, MOST), ((1, 2), (3,)), ((), 5)):
            self.assertEqual(self.made(("first",), pair), pair[0])
            self.assertEqual(self.made(("second",), pair), pair[1])

    def test_both(self):
        for item in (0, MOST, (1, 2), (), ((1, (2, 3)),)):
            made = self.made(("both",), item)
            self.assertEqual(made, (item, item))
            self.assertIs(type(made), tuple)

    def test_sum(self):
        for row, want in (
            ((), 0), ((5,), 5), ((0, 0), 0), ((1, 2, 3), 6), ((MOST, 1), 0), ((MOST, MOST, MOST), 1000000),
            ((MOST,), MOST), ((500001, 500002, 7), 7), (tuple(range(1500)), 124247),
        ):
            self.assertEqual(self.made(("sum",), row), want, row)

    def test_many(self):
        for row, want in (((), 0), ((9,), 1), ((1, 2, 3), 3), (((1, 2), (1, 2)), 2), (((), (), (), ()), 4)):
            self.assertEqual(self.made(("many",), row), want, row)

    def test_one_after_another(self):
        self.assertEqual(all_done((("add", 1), ("times", 10)), 4), 50)
        self.assertEqual(all_done((("times", 10), ("add", 1)), 4), 41)
        self.assertEqual(all_done((("both",), ("first",), ("minus",), ("add", 5)), 3), 2)
        self.assertEqual(all_done((("second",), ("sum",), ("both",), ("both",)), (9, (1, 2))), ((3, 3), (3, 3)))
        self.assertEqual(all_done((("first",), ("second",), ("many",)), ((1, (7, 7, 7)), 2)), 3)

    def test_64_deeds(self):
        self.assertEqual(all_done((("add", 1),) * 64, 0), 64)
        self.assertEqual(all_done((("add", 1),) * 64, 1000000), 61)
        self.assertEqual(all_done((("minus",),) * 64, 5), 5)
        self.assertEqual(all_done((("minus",),) * 63, 5), 999998)
        self.assertEqual(all_done((("times", 2),) * 64, 1), pow(2, 64, 1000003))
        self.assertEqual(all_done((("both",), ("second",)) * 32, (1, (2,))), (1, (2,)))

    def test_somewhat_beyond_the_limits_nothing_is_refused(self):
        self.assertEqual(all_done((("add", 1),) * 70, 0), 70)
        self.assertEqual(all_done((("add", 1000003),), 8), 8)

    def test_item_stays_as_it_was(self):
        row = (1, 2, 3)
        all_done((("sum",), ("add", 1)), row)
        self.assertEqual(row, (1, 2, 3))


class TestTests(unittest.TestCase):
    def holds(self, test, number, want):
        got = all_hold((test,), number)
        self.assertIs(got, want, (test, number))

    def test_below(self):
        for n, number, want in (
            (5, 4, True), (5, 5, False), (5, 6, False), (0, 0, False), (1, 0, True),
            (MOST, MOST, False), (MOST, 1000001, True), (0, MOST, False),
        ):
            self.holds(("below", n), number, want)

    def test_over(self):
        for n, number, want in (
            (5, 6, True), (5, 5, False), (5, 4, False), (0, 0, False), (0, 1, True),
            (MOST, MOST, False), (1000001, MOST, True), (MOST, 0, False),
        ):
            self.holds(("over", n), number, want)

    def test_rest(self):
        for m, r, number, want in (
            (3, 1, 7, True), (3, 1, 1, True), (3, 1, 8, False), (3, 0, 9, True), (3, 0, 0, True), (3, 2, 0, False),
            (1, 0, 0, True), (1, 0, 7, True), (1, 0, MOST, True), (MOST, 0, MOST, True), (MOST, 0, 0, True),
            (MOST, 1000001, 1000001, True), (MOST, 5, MOST, False), (2, 0, MOST, True), (2, 1, MOST, False),
        ):
            self.holds(("rest", m, r), number, want)

    def test_all_have_to_be_met(self):
        tests = (("over", 3), ("below", 10), ("rest", 2, 0))
        met = [n for n in range(20) if all_hold(tests, n)]
        self.assertEqual(met, [4, 6, 8])
        self.assertIs(all_hold(tests, 6), True)
        self.assertIs(all_hold(tests, 3), False)
        self.assertIs(all_hold(tests, 10), False)
        self.assertIs(all_hold(tests, 5), False)

    def test_64_tests(self):
        self.assertIs(all_hold((("over", 3),) * 64, 4), True)
        self.assertIs(all_hold((("over", 3),) * 63 + (("below", 4),), 4), False)
        self.assertIs(all_hold((("below", 4),) + (("over", 3),) * 63, 4), False)
        self.assertIs(all_hold(tuple(("over", n) for n in range(64)), 64), True)
        self.assertIs(all_hold(tuple(("over", n) for n in range(64)), 63), False)


class FoldTests(unittest.TestCase):
    def test_each_word(self):
        for word, one, other, want in (
            ("add", 3, 4, 7), ("add", 0, 0, 0), ("add", MOST, 1, 0), ("add", MOST, MOST, 1000001),
            ("times", 3, 4, 12), ("times", 0, 4, 0), ("times", MOST, MOST, 1), ("times", 1000, 1001, 997),
            ("times", 1001, 1001, 1998), ("least", 3, 4, 3), ("least", 4, 3, 3), ("least", 0, MOST, 0),
            ("least", 5, 5, 5), ("most", 3, 4, 4), ("most", 4, 3, 4), ("most", 0, MOST, MOST), ("most", 5, 5, 5),
            ("most", MOST, 0, MOST), ("least", MOST, MOST, MOST), ("most", 0, 0, 0),
        ):
            self.assertEqual(folded(word, one, other), want, (word, one, other))


if __name__ == "__main__":
    unittest.main()
