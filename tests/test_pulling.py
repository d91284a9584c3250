"""`Run.pull` of one outlet: its items, and behind each pull just what was asked (points 7 and 8)."""

import copy
import unittest

from pulls import all_of, asks
from weavepull.weaving import Run

MOST = 1000002
LONG = [(at * 7919) % 1000003 for at in range(200)]
END = (None, [0])
BEHIND = (None, [])


class OneSourceTests(unittest.TestCase):
    def gives(self, line, numbers, want):
        """The outlet of the line, which names a source's, gives and asks this, pull by pull."""
        run = Run([("source", 0), line], [1], [numbers])
        self.assertEqual(run.asked(), [])
        self.assertEqual(asks(run, 0, len(want)), want, (line, numbers))
        if want[-1][0] is None:
            self.assertEqual(asks(run, 0, 3), [BEHIND] * 3, (line, numbers))


def asked(item, many):
    """A pull that gives the item and asks the source 0 so often."""
    return (item, [0] * many)


class SourceTests(unittest.TestCase):
    def gives(self, numbers):
        run = Run([("source", 0)], [0], [numbers])
        self.assertEqual(asks(run, 0, len(numbers) + 3), [(n, [0]) for n in numbers] + [END, BEHIND, BEHIND])
        self.assertEqual(run.asked(), [0] * (len(numbers) + 1))

    def test_no_numbers_one_some_and_200(self):
        for numbers in ([], [0], [MOST], [3, 1, 2, 3], LONG):
            self.gives(numbers)

    def test_nothing_is_asked_ahead_of_the_first_pull(self):
        self.assertEqual(Run([("source", 0)], [0], [[1, 2]]).asked(), [])

    def test_the_source_that_the_line_names(self):
        run = Run([("source", 2), ("source", 0)], [0, 1], [[5], [6], [7]])
        self.assertEqual(asks(run, 0, 2), [(7, [2]), (None, [2])])
        self.assertEqual(asks(run, 1, 2), [(5, [0]), (None, [0])])


class MapTests(OneSourceTests):
    def test_map(self):
        line = ("map", (("times", 2), ("add", 1)), 0)
        self.gives(line, [], [END, BEHIND])
        self.gives(line, [4], [asked(9, 1), END, BEHIND])
        self.gives(line, LONG, [asked((2 * n + 1) % 1000003, 1) for n in LONG] + [END, BEHIND])

    def test_number_nought_is_an_item(self):
        self.gives(("map", (("times", 0),), 0), [0, 1], [asked(0, 1), asked(0, 1), END])
        self.gives(("keep", (("below", 1),), 0), [0, 1, 0], [asked(0, 1), asked(0, 2), END])
        self.gives(("while", (("below", 1),), 0), [0, 0, 1], [asked(0, 1), asked(0, 1), END])

    def test_pairs(self):
        self.gives(("map", (("both",),), 0), [4, 5], [asked((4, 4), 1), asked((5, 5), 1), END])


class KeepTests(OneSourceTests):
    LINE = ("keep", (("rest", 2, 0), ("over", 1)), 0)

    def test_up_to_an_item_that_meets_the_tests(self):
        self.gives(self.LINE, [], [END, BEHIND])
        self.gives(self.LINE, [4], [asked(4, 1), END, BEHIND])
        self.gives(self.LINE, [1, 3, 4, 4, 5, 6], [asked(4, 3), asked(4, 1), asked(6, 2), END])
        self.gives(self.LINE, [4, 1, 0, 3], [asked(4, 1), (None, [0] * 4), BEHIND])

    def test_one_that_keeps_none(self):
        self.gives(self.LINE, [1, 3, 5], [(None, [0] * 4), BEHIND])
        self.gives(("keep", (("below", 0),), 0), LONG, [(None, [0] * 201), BEHIND])


class WhileTests(OneSourceTests):
    LINE = ("while", (("below", 5), ("over", 0)), 0)

    def test_the_end_with_the_first_that_fails(self):
        self.gives(self.LINE, [1, 2, 5, 3], [asked(1, 1), asked(2, 1), (None, [0]), BEHIND])
        self.gives(self.LINE, [1, 0, 3], [asked(1, 1), (None, [0]), BEHIND])
        self.gives(self.LINE, [7, 1], [(None, [0]), BEHIND])

    def test_none_fails(self):
        self.gives(self.LINE, [], [END, BEHIND])
        self.gives(self.LINE, [1, 2], [asked(1, 1), asked(2, 1), END, BEHIND])


class TakeTests(OneSourceTests):
    def test_at_the_last_item_and_behind_it(self):
        self.gives(("take", 2, 0), [5, 6, 7], [asked(5, 1), asked(6, 1), BEHIND])
        self.gives(("take", 2, 0), [5, 6], [asked(5, 1), asked(6, 1), BEHIND])
        self.gives(("take", 1, 0), [5, 6], [asked(5, 1), BEHIND])

    def test_more_than_there_are(self):
        self.gives(("take", 3, 0), [5, 6], [asked(5, 1), asked(6, 1), END, BEHIND])
        self.gives(("take", 9999, 0), [], [END, BEHIND])
        self.gives(("take", 9999, 0), LONG, [asked(n, 1) for n in LONG] + [END, BEHIND])

    def test_0(self):
        self.gives(("take", 0, 0), [5, 6], [BEHIND])
        self.gives(("take", 0, 0), [], [BEHIND])


class SkipTests(OneSourceTests):
    def test_ahead_of_the_first_item(self):
        self.gives(("skip", 2, 0), [5, 6, 7, 8], [asked(7, 3), asked(8, 1), END, BEHIND])
        self.gives(("skip", 199, 0), LONG, [asked(LONG[199], 200), END, BEHIND])

    def test_as_many_as_there_are_and_more(self):
        self.gives(("skip", 2, 0), [5, 6], [(None, [0] * 3), BEHIND])
        self.gives(("skip", 3, 0), [5, 6], [(None, [0] * 3), BEHIND])
        self.gives(("skip", 9999, 0), [], [END, BEHIND])
        self.gives(("skip", 9999, 0), LONG, [(None, [0] * 201), BEHIND])

    def test_0(self):
        self.gives(("skip", 0, 0), [5, 6], [asked(5, 1), asked(6, 1), END, BEHIND])


class GroupTests(OneSourceTests):
    def test_at_a_change_and_at_the_end(self):
        self.gives(("group", 10, 0), [11, 21, 5, 1, 1], [
            asked((1, (11, 21)), 3), asked((5, (5,)), 1), asked((1, (1, 1)), 2), BEHIND,
        ])
        self.gives(("group", 2, 0), [0, 1], [asked((0, (0,)), 2), asked((1, (1,)), 1), BEHIND])

    def test_none_and_one(self):
        self.gives(("group", 10, 0), [], [END, BEHIND])
        self.gives(("group", 10, 0), [25], [asked((5, (25,)), 2), BEHIND])

    def test_by_1(self):
        self.gives(("group", 1, 0), LONG, [asked((0, tuple(LONG)), 201), BEHIND])

    def test_by_the_most(self):
        self.gives(("group", MOST, 0), [0, MOST, 1, 1], [asked((0, (0, MOST)), 3), asked((1, (1, 1)), 2), BEHIND])


class WindowTests(OneSourceTests):
    def test_at_the_first_item_and_later(self):
        self.gives(("window", 3, 0), [1, 2, 3, 4, 5], [
            asked((1, 2, 3), 3), asked((2, 3, 4), 1), asked((3, 4, 5), 1), END, BEHIND,
        ])
        self.gives(("window", 1, 0), [1, 2], [asked((1,), 1), asked((2,), 1), END, BEHIND])
        self.gives(("window", 9, 0), list(range(9)), [asked(tuple(range(9)), 9), END, BEHIND])

    def test_wider_than_the_list(self):
        self.gives(("window", 3, 0), [], [END, BEHIND])
        self.gives(("window", 3, 0), [1], [(None, [0] * 2), BEHIND])
        self.gives(("window", 9, 0), list(range(8)), [(None, [0] * 9), BEHIND])


class FoldTests(OneSourceTests):
    def test_each_word(self):
        for word, want in (
            ("add", [15, 22, 25]), ("times", [50, 350, 1050]), ("least", [5, 5, 3]), ("most", [10, 10, 10]),
        ):
            self.gives(("fold", word, 10, 0), [5, 7, 3], [asked(number, 1) for number in want] + [END, BEHIND])
            self.gives(("fold", word, 10, 0), [], [END, BEHIND])

    def test_what_came_so_far_may_be_nought(self):
        self.gives(("fold", "add", MOST, 0), [1, 4, 0], [asked(0, 1), asked(4, 1), asked(4, 1), END])
        self.gives(("fold", "times", 3, 0), [0, 4], [asked(0, 1), asked(0, 1), END])
        self.gives(("fold", "least", 3, 0), [0, 4], [asked(0, 1), asked(0, 1), END])


class TwoSourcesTests(unittest.TestCase):
    def gives(self, word, one, other, want):
        """The outlet of a line of two sources gives this; what was asked is told as a text."""
        run = Run([("source", 0), ("source", 1), (word, 0, 1)], [2], [one, other])
        got = [(item, "".join(map(str, sources))) for item, sources in asks(run, 0, len(want))]
        self.assertEqual(got, want, (word, one, other))


class ChainTests(TwoSourcesTests):
    def test_over_the_border(self):
        self.gives("chain", [5, 6], [7, 8], [(5, "0"), (6, "0"), (7, "01"), (8, "1"), (None, "1"), (None, "")])

    def test_either_is_empty(self):
        self.gives("chain", [], [7, 8], [(7, "01"), (8, "1"), (None, "1"), (None, "")])
        self.gives("chain", [5], [], [(5, "0"), (None, "01"), (None, "")])
        self.gives("chain", [], [], [(None, "01"), (None, "")])


class PairTests(TwoSourcesTests):
    def test_both_end_at_once(self):
        # A's end is found first, B is not pulled then.
        self.gives("pair", [1, 2], [3, 4], [((1, 3), "01"), ((2, 4), "01"), (None, "0"), (None, "")])
        self.gives("pair", [], [], [(None, "0"), (None, "")])

    def test_a_ends_first(self):
        self.gives("pair", [1], [3, 4], [((1, 3), "01"), (None, "0"), (None, "")])
        self.gives("pair", [], [3, 4], [(None, "0"), (None, "")])

    def test_b_ends_first(self):
        self.gives("pair", [1, 2, 9], [3], [((1, 3), "01"), (None, "01"), (None, "")])
        self.gives("pair", [1, 2], [], [(None, "01"), (None, "")])

    def test_numbers_nought(self):
        self.gives("pair", [0, 0], [0, 0], [((0, 0), "01"), ((0, 0), "01"), (None, "0")])


class MergeTests(TwoSourcesTests):
    def test_with_what_it_holds(self):
        self.gives("merge", [1, 4, 5], [2, 3, 9], [
            (1, "01"), (2, "0"), (3, "1"), (4, "1"), (5, "0"), (9, "0"), (None, "1"), (None, ""),
        ])

    def test_of_equal_ones_a_s(self):
        self.gives("merge", [4, 4], [4, 4], [(4, "01"), (4, "0"), (4, "0"), (4, "1"), (None, "1"), (None, "")])
        self.gives("merge", [4, 1], [4, 9], [(4, "01"), (1, "0"), (4, "0"), (9, "1"), (None, "1"), (None, "")])

    def test_at_the_end_of_either(self):
        self.gives("merge", [1], [2, 3], [(1, "01"), (2, "0"), (3, "1"), (None, "1"), (None, "")])
        self.gives("merge", [2, 3], [1], [(1, "01"), (2, "1"), (3, "0"), (None, "0"), (None, "")])
        self.gives("merge", [], [1, 2], [(1, "01"), (2, "1"), (None, "1"), (None, "")])
        self.gives("merge", [1, 2], [], [(1, "01"), (2, "0"), (None, "0"), (None, "")])

    def test_at_the_end_of_both(self):
        self.gives("merge", [], [], [(None, "01"), (None, "")])

    def test_numbers_nought(self):
        self.gives("merge", [0, 0], [0], [(0, "01"), (0, "0"), (0, "0"), (None, "1"), (None, "")])
        self.gives("merge", [], [0, 0], [(0, "01"), (0, "1"), (None, "1")])
        self.gives("merge", [1], [0, 0], [(0, "01"), (0, "1"), (1, "1"), (None, "0"), (None, "")])

    def test_lists_that_do_not_rise(self):
        self.gives("merge", [5, 1, 9], [3, 8, 2], [
            (3, "01"), (5, "1"), (1, "0"), (8, "0"), (2, "1"), (9, "1"), (None, "0"),
        ])


class OneLineWithItselfTests(unittest.TestCase):
    def gives(self, word, numbers, want):
        run = Run([("source", 0), (word, 0, 0)], [1], [numbers])
        self.assertEqual([(item, len(sources)) for item, sources in asks(run, 0, len(want))], want)

    def test_chain(self):
        self.gives("chain", [5, 6], [(5, 1), (6, 1), (5, 1), (6, 0), (None, 0), (None, 0)])
        self.gives("chain", [], [(None, 1), (None, 0)])

    def test_pair(self):
        self.gives("pair", [5, 6], [((5, 5), 1), ((6, 6), 1), (None, 1), (None, 0)])

    def test_merge(self):
        self.gives("merge", [5, 6], [(5, 1), (5, 1), (6, 0), (6, 1), (None, 0), (None, 0)])


class LinesBehindOneAnotherTests(unittest.TestCase):
    def test_what_it_pulls_pulls_in_turn(self):
        weave = [("source", 0), ("keep", (("rest", 2, 0),), 0), ("group", 10, 1), ("skip", 1, 2)]
        run = Run(weave, [3], [[2, 1, 12, 4, 3, 14, 5, 6, 7]])
        self.assertEqual(asks(run, 0, 4), [
            asked((4, (4, 14)), 8), asked((6, (6,)), 2), BEHIND, BEHIND,
        ])

    def test_a_take_at_its_end_within_a_chain(self):
        weave = [("source", 0), ("take", 2, 0), ("chain", 1, 0)]
        run = Run(weave, [2], [[7, 8, 9]])
        self.assertEqual(asks(run, 0, 7), [
            asked(7, 1), asked(8, 1), asked(7, 0), asked(8, 0), asked(9, 1), END, BEHIND,
        ])

    def test_24_lines(self):
        weave = [("source", 0)] + [("map", (("add", 1),), at) for at in range(23)]
        run = Run(weave, [23], [[0, MOST]])
        self.assertEqual(asks(run, 0, 4), [asked(23, 1), asked(22, 1), END, BEHIND])

    def test_few_items_of_a_line_that_would_give_very_many(self):
        weave = [("source", 0)] + [("chain", at, at) for at in range(23)]
        run = Run(weave, [23], [[4, 5]])
        self.assertEqual(asks(run, 0, 5), [asked(4, 1), asked(5, 1), asked(4, 1), asked(5, 0), asked(4, 0)])


class CopiesTests(unittest.TestCase):
    def test_what_was_handed_in_stays_as_it_was(self):
        handed = ([("source", 0), ("source", 1), ("merge", 0, 1), ("window", 2, 2)], [3, 2], [[1, 3], [2], [5]])
        weave, outs, lists = copy.deepcopy(handed)
        run = Run(weave, outs, lists)
        self.assertEqual(all_of(run, 0), [(1, 2), (2, 3)])
        run.let_go(1)
        self.assertEqual((weave, outs, lists), handed)

    def test_what_was_handed_in_may_be_changed(self):
        weave = [("source", 0), ("source", 1), ("chain", 0, 1)]
        outs, lists = [2, 1], [[1, 3], [2]]
        run = Run(weave, outs, lists)
        weave[2] = ("pair", 0, 1)
        weave.append(("take", 1, 0))
        outs[0] = 0
        outs.append(1)
        lists[0].append(9)
        lists[0][0] = 8
        lists[1].clear()
        lists.append([7])
        self.assertEqual(all_of(run, 0), [1, 3, 2])
        self.assertEqual(all_of(run, 1), [2])
        self.assertEqual(run.asked(), [0, 0, 0, 1, 1])
        weave.clear()
        self.assertEqual(run.gone(), [0, 1])

    def test_lists_changed_between_two_pulls(self):
        lists = [[1, 2]]
        run = Run([("source", 0)], [0], lists)
        self.assertEqual(run.pull(0), 1)
        lists[0][1] = 5
        lists[0].append(6)
        self.assertEqual([run.pull(0), run.pull(0)], [2, None])

    def test_lists_that_were_given_back_may_be_changed(self):
        run = Run([("source", 0)], [0], [[1], [2]])
        run.pull(0)
        for told in (run.asked, run.gone):
            want = list(told())
            self.assertIs(type(told()), list)
            told().append(5)
            told()[0] = 7
            told().clear()
            self.assertEqual(told(), want)
        self.assertEqual(run.pull(0), None)
        self.assertEqual((run.asked(), run.gone()), ([0, 0], [1, 0]))

    def test_a_list_that_was_given_back_stays_as_it_was(self):
        run = Run([("source", 0)], [0], [[1], [2]])
        asked_first, gone_first = run.asked(), run.gone()
        run.pull(0)
        run.pull(0)
        self.assertEqual((asked_first, gone_first), ([], [1]))

    def test_two_runs_have_nothing_to_do_with_each_other(self):
        weave, outs, lists = [("source", 0), ("group", 2, 0), ("merge", 0, 0)], [1, 2], [[2, 4, 5]]
        one, other = Run(weave, outs, lists), Run(weave, outs, lists)
        self.assertEqual(one.pull(0), (0, (2, 4)))
        self.assertEqual(other.asked(), [])
        self.assertEqual(all_of(one, 1), [2, 2, 4, 4, 5, 5])
        one.let_go(0)
        self.assertEqual((other.asked(), other.gone()), ([], []))
        self.assertEqual(all_of(other, 0), [(0, (2, 4)), (1, (5,))])
        self.assertEqual(all_of(other, 1), [2, 2, 4, 4, 5, 5])
        self.assertEqual((one.asked(), one.gone()), ([0] * 4, [0]))


if __name__ == "__main__":
    unittest.main()
