"""`plain`: what a line gives, whole (point 5), of lists that stay as they were (point 1)."""

import copy
import unittest

from weavepull.plain import plain

MOST = 1000002
LONG = [(at * 7919) % 1000003 for at in range(200)]


class OneLineTests(unittest.TestCase):
    def gives(self, line, numbers, want):
        """The line gives this of the numbers of line 0."""
        told = plain([("source", 0), line], [numbers])
        self.assertEqual(told, [numbers, want], (line, numbers))
        self.assertIs(type(told[1]), list)
        for item in told[1]:
            self.assertIn(type(item), (int, tuple))


class SourceTests(unittest.TestCase):
    def test_numbers_of_the_source(self):
        for numbers in ([], [0], [MOST], [3, 1, 2, 3], LONG):
            self.assertEqual(plain([("source", 0)], [numbers]), [numbers])

    def test_each_line_its_own_source(self):
        lists = [[1], [2, 2], [], [4, 0]]
        self.assertEqual(plain([("source", 2), ("source", 0), ("source", 3)], lists), [[], [1], [4, 0]])
        self.assertEqual(plain([("source", 3), ("take", 1, 0), ("source", 1)], lists), [[4, 0], [4], [2, 2]])


class MapTests(OneLineTests):
    def test_deeds(self):
        self.gives(("map", (("add", 3),), 0), [], [])
        self.gives(("map", (("add", 3),), 0), [5], [8])
        self.gives(("map", (("add", MOST),), 0), [0, 1, MOST], [MOST, 0, 1000001])
        self.gives(("map", (("times", 0),), 0), [0, 7, MOST], [0, 0, 0])
        self.gives(("map", (("minus",),), 0), [0, 1, MOST], [0, MOST, 1])
        self.gives(("map", (("times", 2), ("add", 1)), 0), LONG, [(2 * n + 1) % 1000003 for n in LONG])

    def test_deeds_one_after_another(self):
        self.gives(("map", (("add", 1), ("times", 10)), 0), [1, 2], [20, 30])
        self.gives(("map", (("times", 10), ("add", 1)), 0), [1, 2], [11, 21])
        self.gives(("map", (("add", 1),) * 64, 0), [0, MOST], [64, 63])

    def test_pairs_and_rows(self):
        self.gives(("map", (("both",),), 0), [1, 2], [(1, 1), (2, 2)])
        self.gives(("map", (("both",), ("both",)), 0), [1], [((1, 1), (1, 1))])
        weave = [
            ("source", 0), ("group", 10, 0), ("map", (("first",),), 1), ("map", (("second",),), 1),
            ("map", (("sum",),), 3), ("map", (("many",),), 3), ("map", (("second",), ("both",)), 1),
        ]
        self.assertEqual(plain(weave, [[11, 21, 2, MOST, MOST, 2]])[1:], [
            [(1, (11, 21)), (2, (2, MOST, MOST, 2))], [1, 2], [(11, 21), (2, MOST, MOST, 2)], [32, 2], [2, 4],
            [((11, 21), (11, 21)), ((2, MOST, MOST, 2), (2, MOST, MOST, 2))],
        ])


class KeepTests(OneLineTests):
    def test_keep(self):
        keep = ("keep", (("rest", 2, 0),), 0)
        self.gives(keep, [], [])
        self.gives(keep, [1], [])
        self.gives(keep, [2], [2])
        self.gives(keep, [1, 2, 3, 4, 4, 5], [2, 4, 4])
        self.gives(keep, [1, 3, 5], [])
        self.gives(keep, [2, 4, 6], [2, 4, 6])
        self.gives(keep, LONG, [n for n in LONG if n % 2 == 0])

    def test_all_tests_have_to_be_met(self):
        self.gives(("keep", (("over", 2), ("below", 5)), 0), [1, 2, 3, 4, 5, 6, 3], [3, 4, 3])
        self.gives(("keep", (("below", 5), ("over", 2)), 0), [1, 2, 3, 4, 5, 6, 3], [3, 4, 3])

    def test_edges(self):
        self.gives(("keep", (("below", 0),), 0), [0, 1, MOST], [])
        self.gives(("keep", (("over", 0),), 0), [0, 1, MOST], [1, MOST])
        self.gives(("keep", (("below", MOST),), 0), [0, 1000001, MOST], [0, 1000001])
        self.gives(("keep", (("over", MOST),), 0), [0, MOST], [])
        self.gives(("keep", (("rest", 1, 0),), 0), [0, 5, MOST], [0, 5, MOST])
        self.gives(("keep", (("rest", MOST, 0),), 0), [0, 5, MOST], [0, MOST])
        self.gives(("keep", (("rest", MOST, 1000001),), 0), [0, 1000001, MOST], [1000001])


class WhileTests(OneLineTests):
    def test_while(self):
        line = ("while", (("below", 5),), 0)
        self.gives(line, [], [])
        self.gives(line, [4], [4])
        self.gives(line, [5], [])
        self.gives(line, [5, 1, 2], [])
        self.gives(line, [1, 2, 5, 3, 1], [1, 2])
        self.gives(line, [1, 2, 3], [1, 2, 3])
        self.gives(("while", (("rest", 1, 0),), 0), LONG, LONG)

    def test_all_tests_have_to_be_met(self):
        for tests in ((("below", 5), ("over", 1)), (("over", 1), ("below", 5))):
            self.gives(("while", tests, 0), [2, 4, 5, 3], [2, 4])
            self.gives(("while", tests, 0), [2, 4, 1, 3], [2, 4])


class TakeAndSkipTests(OneLineTests):
    def test_numbers_at_their_edges(self):
        for n in (0, 1, 2, 3, 199, 200, 201, 9998, 9999):
            for numbers in ([], [7], [7, 8, 9], LONG):
                self.gives(("take", n, 0), numbers, numbers[:n])
                self.gives(("skip", n, 0), numbers, numbers[n:])

    def test_some(self):
        self.gives(("take", 2, 0), [5, 6, 7], [5, 6])
        self.gives(("skip", 2, 0), [5, 6, 7], [7])

    def test_of_pairs(self):
        weave = [("source", 0), ("map", (("both",),), 0), ("take", 1, 1), ("skip", 1, 1)]
        self.assertEqual(plain(weave, [[4, 5]])[2:], [[(4, 4)], [(5, 5)]])


class GroupTests(OneLineTests):
    def test_group(self):
        self.gives(("group", 10, 0), [], [])
        self.gives(("group", 10, 0), [25], [(5, (25,))])
        self.gives(("group", 10, 0), [11, 21, 5, 1, 1], [(1, (11, 21)), (5, (5,)), (1, (1, 1))])
        self.gives(("group", 2, 0), [0, 1, 2, 3], [(0, (0,)), (1, (1,)), (0, (2,)), (1, (3,))])

    def test_by_1(self):
        self.gives(("group", 1, 0), [4], [(0, (4,))])
        self.gives(("group", 1, 0), [4, 9, 0, MOST], [(0, (4, 9, 0, MOST))])
        self.gives(("group", 1, 0), LONG, [(0, tuple(LONG))])

    def test_by_the_most(self):
        self.gives(("group", MOST, 0), [0, MOST, 1, 1], [(0, (0, MOST)), (1, (1, 1))])


class WindowTests(OneLineTests):
    def test_window(self):
        self.gives(("window", 2, 0), [1, 2, 3, 4], [(1, 2), (2, 3), (3, 4)])
        self.gives(("window", 3, 0), [1, 2, 3], [(1, 2, 3)])
        self.gives(("window", 1, 0), [1, 2], [(1,), (2,)])
        self.gives(("window", 9, 0), LONG, [tuple(LONG[at:at + 9]) for at in range(192)])

    def test_wider_than_the_list(self):
        self.gives(("window", 1, 0), [], [])
        self.gives(("window", 9, 0), [], [])
        self.gives(("window", 9, 0), [1, 2, 3, 4, 5, 6, 7, 8], [])
        self.gives(("window", 9, 0), [1, 2, 3, 4, 5, 6, 7, 8, 9], [(1, 2, 3, 4, 5, 6, 7, 8, 9)])
        self.gives(("window", 2, 0), [1], [])

    def test_of_rows_and_pairs(self):
        weave = [("source", 0), ("window", 2, 0), ("window", 2, 1), ("pair", 0, 1), ("window", 1, 3)]
        self.assertEqual(plain(weave, [[1, 2, 3]])[2:], [
            [((1, 2), (2, 3))], [(1, (1, 2)), (2, (2, 3))], [((1, (1, 2)),), ((2, (2, 3)),)],
        ])


class FoldTests(OneLineTests):
    def test_each_word(self):
        for word, want in (
            ("add", [15, 22, 25]), ("times", [50, 350, 1050]), ("least", [5, 5, 3]), ("most", [10, 10, 10]),
        ):
            self.gives(("fold", word, 10, 0), [], [])
            self.gives(("fold", word, 10, 0), [5], want[:1])
            self.gives(("fold", word, 10, 0), [5, 7, 3], want)

    def test_by_rests(self):
        self.gives(("fold", "add", MOST, 0), [0, 1, MOST, MOST], [MOST, 0, MOST, 1000001])
        self.gives(("fold", "times", MOST, 0), [MOST, MOST, 0, 5], [1, MOST, 0, 0])
        self.gives(("fold", "times", 1, 0), [1000, 1001], [1000, 997])

    def test_least_and_most_at_their_edges(self):
        self.gives(("fold", "least", 0, 0), [MOST, 0], [0, 0])
        self.gives(("fold", "least", MOST, 0), [MOST, 7, 9, 0], [MOST, 7, 7, 0])
        self.gives(("fold", "most", 0, 0), [0, 3, 2, MOST, 1], [0, 3, 3, MOST, MOST])
        self.gives(("fold", "most", MOST, 0), [0, 3], [MOST, MOST])

    def test_200(self):
        self.gives(("fold", "add", 0, 0), [5] * 200, list(range(5, 1005, 5)))


class TwoListsTests(unittest.TestCase):
    def gives(self, word, one, other, want):
        told = plain([("source", 0), ("source", 1), (word, 0, 1)], [one, other])
        self.assertEqual(told, [one, other, want])

    def test_chain(self):
        for one, other in (([], []), ([1], []), ([], [1]), ([3, 1], [2, 3, 4]), (LONG, [5]), ([5], LONG)):
            self.gives("chain", one, other, one + other)

    def test_pair(self):
        self.gives("pair", [], [], [])
        self.gives("pair", [1], [], [])
        self.gives("pair", [], [1], [])
        self.gives("pair", [1, 2], [3, 4], [(1, 3), (2, 4)])
        self.gives("pair", [1, 2, 9], [3, 4], [(1, 3), (2, 4)])
        self.gives("pair", [1, 2], [3, 4, 9], [(1, 3), (2, 4)])
        self.gives("pair", LONG, LONG[::-1], list(zip(LONG, LONG[::-1])))

    def test_merge(self):
        self.gives("merge", [], [], [])
        self.gives("merge", [5, 1], [], [5, 1])
        self.gives("merge", [], [5, 1], [5, 1])
        self.gives("merge", [1, 4, 6], [2, 3, 7, 9], [1, 2, 3, 4, 6, 7, 9])
        self.gives("merge", [2, 3, 7, 9], [1, 4, 6], [1, 2, 3, 4, 6, 7, 9])
        self.gives("merge", [0, MOST], [0, MOST], [0, 0, MOST, MOST])
        self.gives("merge", sorted(LONG), [500] * 3, sorted(LONG + [500] * 3))

    def test_merge_of_lists_that_do_not_rise(self):
        self.gives("merge", [5, 1, 9], [3, 8, 2], [3, 5, 1, 8, 2, 9])
        self.gives("merge", [3, 8, 2], [5, 1, 9], [3, 5, 1, 8, 2, 9])

    def test_merge_of_equal_items(self):
        # Of equal ones A's is given: the item behind it is then the next one of A.
        self.gives("merge", [4, 1], [4, 9], [4, 1, 4, 9])
        self.gives("merge", [4, 9], [4, 1], [4, 4, 1, 9])
        self.gives("merge", [2, 2], [2], [2, 2, 2])

    def test_one_line_with_itself(self):
        weave = [("source", 0), ("chain", 0, 0), ("pair", 0, 0), ("merge", 0, 0)]
        self.assertEqual(plain(weave, [[]]), [[], [], [], []])
        self.assertEqual(plain(weave, [[3, 1]]), [[3, 1], [3, 1, 3, 1], [(3, 3), (1, 1)], [3, 1, 3, 1]])
        self.assertEqual(plain(weave, [[1, 3]])[3], [1, 1, 3, 3])

    def test_pairs_and_rows(self):
        weave = [
            ("source", 0), ("source", 1), ("pair", 0, 1), ("window", 2, 0), ("chain", 2, 2), ("pair", 2, 3),
            ("window", 1, 1), ("chain", 3, 6), ("pair", 3, 2),
        ]
        self.assertEqual(plain(weave, [[1, 2, 3], [4, 5]])[2:], [
            [(1, 4), (2, 5)], [(1, 2), (2, 3)], [(1, 4), (2, 5), (1, 4), (2, 5)],
            [((1, 4), (1, 2)), ((2, 5), (2, 3))], [(4,), (5,)], [(1, 2), (2, 3), (4,), (5,)],
            [((1, 2), (1, 4)), ((2, 3), (2, 5))],
        ])


class ManyLinesTests(unittest.TestCase):
    def test_24_lines(self):
        weave = [("source", 0)] + [("map", (("add", 1),), at) for at in range(23)]
        self.assertEqual(plain(weave, [[0, MOST]]), [[at, (MOST + at) % 1000003] for at in range(24)])

    def test_lines_behind_one_another(self):
        weave = [
            ("source", 0), ("map", (("times", 3), ("add", 1)), 0), ("keep", (("rest", 2, 0),), 1), ("skip", 1, 2),
            ("fold", "add", 0, 3), ("take", 2, 4),
        ]
        self.assertEqual(plain(weave, [[1, 2, 3, 4, 5, 6, 7]]), [
            [1, 2, 3, 4, 5, 6, 7], [4, 7, 10, 13, 16, 19, 22], [4, 10, 16, 22], [10, 16, 22], [10, 26, 48], [10, 26],
        ])

    def test_twelve_doublings(self):
        weave = [("source", 0)] + [("chain", at, at) for at in range(12)]
        self.assertEqual(plain(weave, [[1, 2]])[12], [1, 2] * 4096)


class KeptTests(unittest.TestCase):
    WEAVE = [
        ("source", 0), ("source", 1), ("chain", 0, 1), ("take", 9, 0), ("skip", 0, 1), ("merge", 0, 1), ("pair", 0, 1),
        ("while", (("below", 9),), 0), ("keep", (("below", 9),), 0), ("window", 2, 0), ("group", 2, 0),
        ("fold", "add", 0, 0), ("map", (("add", 0),), 0), ("take", 9, 6),
    ]
    LISTS = [[1, 2, 3], [4, 5], [6]]

    def test_what_was_handed_in_stays_as_it_was(self):
        weave, lists = copy.deepcopy(self.WEAVE), copy.deepcopy(self.LISTS)
        plain(weave, lists)
        self.assertEqual((weave, lists), (self.WEAVE, self.LISTS))

    def test_lists_that_were_told_may_be_changed(self):
        weave, lists = copy.deepcopy(self.WEAVE), copy.deepcopy(self.LISTS)
        first, want = plain(weave, lists), plain(weave, lists)
        for at in range(len(weave)):
            first[at].append("changed")
            first[at][0] = "changed"
            self.assertEqual(first[at + 1:], want[at + 1:])
        first.clear()
        self.assertEqual((weave, lists), (self.WEAVE, self.LISTS))
        self.assertEqual(plain(weave, lists), want)

    def test_an_empty_list_that_was_told_may_be_changed(self):
        lists = [[], []]
        told = plain([("source", 0), ("source", 1), ("chain", 0, 1), ("chain", 0, 0)], lists)
        told[0].append(1)
        self.assertEqual(told, [[1], [], [], []])
        self.assertEqual(lists, [[], []])


if __name__ == "__main__":
    unittest.main()
