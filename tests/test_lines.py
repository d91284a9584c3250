"""`looked`: the kinds of all lines, or BadLine (points 5 and 6, with the bounds of points 2 to 4)."""

import copy
import unittest

from weavepull.errors import BadLine
from weavepull.lines import looked

MOST = 1000002
N = "number"
ROW = ("row", N)
PAIR = ("pair", N, N)
GROUP = ("pair", N, ROW)

# Line 0 gives numbers, 1 pairs of numbers, 2 rows of numbers, 3 groups.
AHEAD = [("source", 0), ("pair", 0, 0), ("window", 3, 0), ("group", 10, 0)]
NUMBERS, PAIRS, ROWS, GROUPS = 0, 1, 2, 3


def kind_of(line, many=2):
    """The kind of one line behind AHEAD."""
    return looked(AHEAD + [line], many)[4]


class KindTests(unittest.TestCase):
    def kind(self, line, want):
        self.assertEqual(kind_of(line), want, line)

    def test_lines_ahead(self):
        self.assertEqual(looked(AHEAD, 1), [N, PAIR, ROW, GROUP])

    def test_source(self):
        self.assertEqual(looked([("source", 0)], 1), [N])
        self.assertEqual(looked([("source", 2), ("source", 0), ("source", 1)], 3), [N, N, N])
        self.assertEqual(looked([("source", 4)], 5), [N])

    def test_map_of_numbers(self):
        for deed in (("add", 1), ("times", 0), ("minus",)):
            self.kind(("map", (deed,), NUMBERS), N)
        self.kind(("map", (("both",),), NUMBERS), PAIR)

    def test_map_of_pairs(self):
        self.kind(("map", (("first",),), PAIRS), N)
        self.kind(("map", (("second",),), PAIRS), N)
        self.kind(("map", (("both",),), PAIRS), ("pair", PAIR, PAIR))
        self.kind(("map", (("first",),), GROUPS), N)
        self.kind(("map", (("second",),), GROUPS), ROW)
        self.kind(("map", (("both",),), GROUPS), ("pair", GROUP, GROUP))

    def test_map_of_rows(self):
        self.kind(("map", (("sum",),), ROWS), N)
        self.kind(("map", (("many",),), ROWS), N)
        self.kind(("map", (("both",),), ROWS), ("pair", ROW, ROW))

    def test_many_of_rows_of_any_kind(self):
        for ahead, row in ((PAIRS, PAIR), (ROWS, ROW), (GROUPS, GROUP)):
            weave = AHEAD + [("window", 2, ahead), ("map", (("many",),), 4)]
            self.assertEqual(looked(weave, 1)[4:], [("row", row), N])

    def test_map_one_after_another(self):
        self.kind(("map", (("second",), ("sum",), ("both",), ("both",)), GROUPS), ("pair", PAIR, PAIR))
        self.kind(("map", (("both",), ("second",), ("sum",), ("add", 3)), ROWS), N)
        self.kind(("map", (("add", 1),) * 64, NUMBERS), N)
        self.kind(("map", (("both",), ("first",)) * 32, ROWS), ROW)

    def test_keep_and_while(self):
        for word in ("keep", "while"):
            for test in (("below", 5), ("over", 5), ("rest", 3, 1)):
                self.kind((word, (test,), NUMBERS), N)
            self.kind((word, (("below", 5), ("over", 1)) * 32, NUMBERS), N)

    def test_take_and_skip(self):
        for word in ("take", "skip"):
            for ahead, want in ((NUMBERS, N), (PAIRS, PAIR), (ROWS, ROW), (GROUPS, GROUP)):
                self.kind((word, 5, ahead), want)

    def test_group(self):
        self.kind(("group", 7, NUMBERS), GROUP)

    def test_window(self):
        for ahead, want in ((NUMBERS, N), (PAIRS, PAIR), (ROWS, ROW), (GROUPS, GROUP)):
            self.kind(("window", 2, ahead), ("row", want))

    def test_fold(self):
        for word in ("add", "times", "least", "most"):
            self.kind(("fold", word, 3, NUMBERS), N)

    def test_chain(self):
        for ahead, want in ((NUMBERS, N), (PAIRS, PAIR), (ROWS, ROW), (GROUPS, GROUP)):
            self.kind(("chain", ahead, ahead), want)
        weave = AHEAD + [("map", (("both",),), 0), ("chain", PAIRS, 4)]
        self.assertEqual(looked(weave, 1)[5], PAIR)

    def test_pair(self):
        self.kind(("pair", NUMBERS, ROWS), ("pair", N, ROW))
        self.kind(("pair", ROWS, NUMBERS), ("pair", ROW, N))
        self.kind(("pair", GROUPS, PAIRS), ("pair", GROUP, PAIR))

    def test_merge(self):
        self.kind(("merge", NUMBERS, NUMBERS), N)
        self.assertEqual(looked(AHEAD + [("source", 1), ("merge", 4, 0)], 2)[5], N)

    def test_line_that_names_one_line_twice(self):
        source = ("source", 0)
        self.assertEqual(looked([source, ("pair", 0, 0)], 1), [N, PAIR])
        self.assertEqual(looked([source, ("chain", 0, 0)], 1), [N, N])
        self.assertEqual(looked([source, ("merge", 0, 0)], 1), [N, N])

    def test_kind_eight_deep(self):
        weave = [("source", 0)] + [("window", 2, at) for at in range(7)]
        kind = N
        for _ in range(7):
            kind = ("row", kind)
        self.assertEqual(looked(weave, 1)[7], kind)
        weave = [("source", 0), ("map", (("both",),) * 7, 0), ("map", (("first",),) * 7, 1)]
        self.assertEqual(looked(weave, 1)[2], N)

    def test_one_line_and_24(self):
        self.assertEqual(looked([("source", 0)], 1), [N])
        self.assertEqual(looked([("source", 0)] + [("take", 1, 0)] * 23, 1), [N] * 24)
        self.assertEqual(looked([("source", at) for at in range(24)], 24), [N] * 24)


class KeptTests(unittest.TestCase):
    WEAVE = [("source", 0), ("map", (("both",),), 0), ("source", 1), ("fold", "add", 0, 2), ("merge", 0, 3)]
    KINDS = [N, PAIR, N, N, N]

    def test_weave_stays_as_it_was(self):
        weave = copy.deepcopy(self.WEAVE)
        looked(weave, 2)
        self.assertEqual(weave, self.WEAVE)
        bad = weave + [("take", 1, 9)]
        with self.assertRaises(BadLine):
            looked(bad, 2)
        self.assertEqual(bad, self.WEAVE + [("take", 1, 9)])

    def test_asked_twice(self):
        self.assertEqual(looked(self.WEAVE, 2), looked(self.WEAVE, 2))

    def test_list_that_was_given_back_may_be_changed(self):
        first = looked(self.WEAVE, 2)
        self.assertIs(type(first), list)
        first[0] = "changed"
        first.append("more")
        self.assertEqual(looked(self.WEAVE, 2), self.KINDS)
        first.clear()
        self.assertEqual(looked(self.WEAVE, 2), self.KINDS)


class BadLineTests(unittest.TestCase):
    def refused(self, weave, many, at, why):
        with self.assertRaises(BadLine, msg=(weave, many)) as caught:
            looked(weave, many)
        self.assertEqual((caught.exception.at, caught.exception.why), (at, why), (weave, many))

    def line_refused(self, line, why, many=2):
        """The line is refused behind AHEAD."""
        self.refused(AHEAD + [line], many, 4, why)

    def line_can_be(self, line):
        """The line is not refused behind AHEAD."""
        self.assertEqual(len(looked(AHEAD + [line], 2)), 5, line)


class ManyTests(BadLineTests):
    def test_weave_without_lines(self):
        self.refused([], 0, 0, "many")
        self.refused([], 3, 0, "many")

    def test_25_lines(self):
        self.refused([("source", at) for at in range(25)], 25, 24, "many")
        self.refused([("source", 0)] + [("take", 1, 0)] * 30, 1, 24, "many")

    def test_ahead_of_all_lines(self):
        self.refused([("source", 9)] * 25, 1, 24, "many")
        self.refused([("take", 10000, 0)] + [("source", 0)] * 24, 1, 24, "many")
        self.refused([("source", 0)] * 24, 1, 1, "place")


class PlaceTests(BadLineTests):
    def test_a_is_no_line_ahead(self):
        for at in (4, 5, 23, 24, 1000, -1, -4, -5):
            for line in (
                ("map", (("both",),), at), ("keep", (("over", 3),), at), ("while", (("over", 3),), at),
                ("take", 1, at), ("skip", 1, at), ("group", 2, at), ("window", 2, at), ("fold", "add", 2, at),
                ("chain", at, 0), ("pair", at, 0), ("merge", at, 0),
            ):
                self.line_refused(line, "place")

    def test_b_is_no_line_ahead(self):
        for at in (4, 5, 23, 24, 1000, -1, -4, -5):
            for word in ("chain", "pair", "merge"):
                self.line_refused((word, 0, at), "place")
                self.line_refused((word, at, at), "place")

    def test_a_later_line_that_there_is(self):
        weave = [("source", 0), ("take", 1, 2), ("skip", 1, 0)]
        self.refused(weave, 1, 1, "place")
        self.refused([("take", 1, 1), ("source", 0)], 1, 0, "place")
        self.refused([("take", 1, 0)], 1, 0, "place")
        self.refused([("pair", 0, 0)], 1, 0, "place")

    def test_k_is_no_source(self):
        for k in (-1, -2, 2, 3, 100):
            self.line_refused(("source", k), "place")
            self.refused([("source", k)], 2, 0, "place")
        self.refused([("source", 0)], 0, 0, "place")
        self.refused([("source", 0), ("source", 1)], 1, 1, "place")

    def test_k_named_ahead(self):
        self.line_refused(("source", 0), "place")
        self.refused([("source", 1), ("source", 0), ("source", 1)], 2, 2, "place")
        self.line_can_be(("source", 1))

    def test_only_a_source_names_a_source(self):
        weave = [("source", 0), ("take", 1, 0), ("pair", 0, 1), ("group", 2, 0), ("source", 2), ("source", 1)]
        self.assertEqual(looked(weave, 3), [N, N, PAIR, GROUP, N, N])

    def test_the_line_right_ahead_and_the_first_one_can_be_named(self):
        weave = [("source", 0), ("take", 3, 0), ("pair", 1, 0), ("pair", 0, 2)]
        self.assertEqual(looked(weave, 1), [N, N, PAIR, ("pair", N, PAIR)])


class NumberTests(BadLineTests):
    def within(self, made, low, high):
        """The line made of a number can be from low to high, and not beyond."""
        for number in (low, low + 1, high - 1, high):
            self.line_can_be(made(number))
        for number in (low - 1, low - 1000, high + 1, high + 1000000):
            self.line_refused(made(number), "number")

    def test_deeds(self):
        for word in ("add", "times"):
            self.within(lambda n: ("map", ((word, n),), NUMBERS), 0, MOST)
            self.within(lambda n: ("map", (("minus",), (word, 1), (word, n)), NUMBERS), 0, MOST)
            self.within(lambda n: ("map", ((word, n), ("both",)), NUMBERS), 0, MOST)

    def test_tests(self):
        for line in ("keep", "while"):
            for word in ("below", "over"):
                self.within(lambda n: (line, ((word, n),), NUMBERS), 0, MOST)
                self.within(lambda n: (line, (("rest", 2, 1), (word, n)), NUMBERS), 0, MOST)
                self.within(lambda n: (line, ((word, n), ("rest", 2, 1)), NUMBERS), 0, MOST)
            self.within(lambda m: (line, (("rest", m, 0),), NUMBERS), 1, MOST)
            self.within(lambda r: (line, (("rest", 7, r),), NUMBERS), 0, 6)
            self.within(lambda r: (line, (("rest", MOST, r),), NUMBERS), 0, 1000001)
            self.within(lambda r: (line, (("over", 1), ("rest", 7, r)), NUMBERS), 0, 6)

    def test_r_is_less_than_m(self):
        for line in ("keep", "while"):
            for m, r in ((1, 0), (2, 1), (MOST, 1000001)):
                self.line_can_be((line, (("rest", m, r),), NUMBERS))
            for m, r in ((0, 0), (1, 1), (2, 2), (2, 3), (MOST, MOST), (-1, -2), (5, -1), (1000003, 0), (1000003, 5)):
                self.line_refused((line, (("rest", m, r),), NUMBERS), "number")

    def test_take_and_skip(self):
        for word in ("take", "skip"):
            self.within(lambda n: (word, n, PAIRS), 0, 9999)

    def test_group(self):
        self.within(lambda m: ("group", m, NUMBERS), 1, MOST)

    def test_window(self):
        self.within(lambda n: ("window", n, GROUPS), 1, 9)

    def test_fold(self):
        for word in ("add", "times", "least", "most"):
            self.within(lambda n: ("fold", word, n, NUMBERS), 0, MOST)

    def test_how_many_deeds(self):
        self.line_refused(("map", (), NUMBERS), "number")
        for deed in (("add", 1), ("minus",), ("times", 2)):
            self.line_can_be(("map", (deed,), NUMBERS))
            self.line_can_be(("map", (deed,) * 64, NUMBERS))
            self.line_refused(("map", (deed,) * 65, NUMBERS), "number")
            self.line_refused(("map", (deed,) * 70, NUMBERS), "number")

    def test_how_many_tests(self):
        for word in ("keep", "while"):
            self.line_refused((word, (), NUMBERS), "number")
            for test in (("below", 9), ("over", 9), ("rest", 9, 1)):
                self.line_can_be((word, (test,), NUMBERS))
                self.line_can_be((word, (test,) * 64, NUMBERS))
                self.line_refused((word, (test,) * 65, NUMBERS), "number")


class BadKindTests(BadLineTests):
    def test_lines_that_want_numbers(self):
        for ahead in (PAIRS, ROWS, GROUPS):
            for line in (
                ("keep", (("over", 1),), ahead), ("while", (("over", 1),), ahead), ("group", 2, ahead),
                ("fold", "add", 0, ahead), ("fold", "times", 0, ahead), ("fold", "least", 0, ahead),
                ("fold", "most", 0, ahead), ("merge", ahead, NUMBERS), ("merge", NUMBERS, ahead),
                ("merge", ahead, ahead),
            ):
                self.line_refused(line, "kind")

    def test_deeds_on_kinds_that_they_are_not_for(self):
        fit = {
            ("add", 1): (NUMBERS,), ("times", 1): (NUMBERS,), ("minus",): (NUMBERS,),
            ("first",): (PAIRS, GROUPS), ("second",): (PAIRS, GROUPS),
            ("both",): (NUMBERS, PAIRS, ROWS, GROUPS), ("sum",): (ROWS,), ("many",): (ROWS,),
        }
        for deed, kinds in fit.items():
            for ahead in (NUMBERS, PAIRS, ROWS, GROUPS):
                if ahead in kinds:
                    self.line_can_be(("map", (deed,), ahead))
                else:
                    self.line_refused(("map", (deed,), ahead), "kind")

    def test_deeds_one_after_another(self):
        for deeds, ahead in (
            ((("both",), ("add", 1)), NUMBERS), ((("first",), ("first",)), PAIRS), ((("add", 1), ("sum",)), NUMBERS),
            ((("many",), ("sum",)), ROWS), ((("first",), ("sum",)), GROUPS), ((("second",), ("minus",)), GROUPS),
            ((("add", 1),) * 63 + (("first",),), NUMBERS), ((("first",),) + (("add", 1),) * 63, NUMBERS),
            ((("sum",), ("both",)), NUMBERS), ((("minus",), ("both",), ("first",)), PAIRS),
        ):
            self.line_refused(("map", deeds, ahead), "kind")

    def test_sum_wants_a_row_of_numbers(self):
        for ahead in (PAIRS, ROWS, GROUPS):
            self.refused(AHEAD + [("window", 2, ahead), ("map", (("sum",),), 4)], 1, 5, "kind")

    def test_chain_of_two_kinds(self):
        for one in (NUMBERS, PAIRS, ROWS, GROUPS):
            for other in (NUMBERS, PAIRS, ROWS, GROUPS):
                if one != other:
                    self.line_refused(("chain", one, other), "kind")
        self.refused([("source", 0), ("pair", 0, 0), ("pair", 0, 1), ("pair", 1, 0), ("chain", 2, 3)], 1, 4, "kind")
        self.refused([("source", 0), ("window", 1, 0), ("window", 1, 1), ("chain", 1, 2)], 1, 3, "kind")


class FirstFaultTests(BadLineTests):
    def test_place_ahead_of_number(self):
        for line in (
            ("map", (), 9), ("map", (("add", -1),), 4), ("keep", (), -1), ("while", (("rest", 2, 2),), 4),
            ("take", 10000, 4), ("skip", -1, 4), ("group", 0, 9), ("window", 10, -1), ("fold", "add", 1000003, 4),
        ):
            self.line_refused(line, "place")

    def test_place_ahead_of_kind(self):
        for line in (("merge", PAIRS, 4), ("merge", -1, ROWS), ("chain", PAIRS, 9), ("pair", PAIRS, 4)):
            self.line_refused(line, "place")

    def test_number_ahead_of_kind(self):
        for line in (
            ("map", (("add", 1000003),), PAIRS), ("map", (("first",), ("add", -1)), NUMBERS),
            ("map", (("sum",),) * 65, NUMBERS), ("map", (), PAIRS),
            ("keep", (), PAIRS), ("keep", (("over", -1),), ROWS),
            ("while", (("rest", 0, 0),), PAIRS), ("group", 0, PAIRS), ("fold", "most", -1, ROWS),
            ("fold", "add", 1000003, GROUPS),
        ):
            self.line_refused(line, "number")

    def test_first_line_that_cannot_be(self):
        kind, number, place = ("group", 2, PAIRS), ("take", -1, 0), ("take", 1, 9)
        for first, why in ((kind, "kind"), (number, "number"), (place, "place")):
            for second in (kind, number, place):
                self.refused(AHEAD + [first, second], 1, 4, why)
                self.refused(AHEAD + [("take", 1, 0), first, second], 1, 5, why)

    def test_line_that_names_one_that_cannot_be(self):
        self.refused(AHEAD + [("merge", 0, 1), ("take", 1, 4)], 1, 4, "kind")
        self.refused([("source", 1), ("source", 1)], 1, 0, "place")


if __name__ == "__main__":
    unittest.main()
