"""`Run.let_go` and `Run.gone`: who lets go of whom, when, and in which order (point 9)."""

import unittest

from pulls import all_of, pull, pulls
from weavepull.weaving import Run


def lists_of(many):
    """So many sources, with three numbers each."""
    return [[10 * k + 1, 10 * k + 2, 10 * k + 3] for k in range(many)]


def gone_at_first(weave, outs, many):
    run = Run(weave, outs, lists_of(many))
    assert run.asked() == []
    return run.gone()


class BeginningTests(unittest.TestCase):
    def test_lines_in_which_nobody_has_a_place(self):
        self.assertEqual(gone_at_first([("source", 0), ("source", 1)], [1], 2), [0])
        self.assertEqual(gone_at_first([("source", 0), ("source", 1)], [0], 2), [1])
        self.assertEqual(gone_at_first([("source", 0), ("source", 1)], [0, 1], 2), [])
        self.assertEqual(gone_at_first([("source", 0), ("take", 1, 0)], [1], 1), [])
        self.assertEqual(gone_at_first([("source", 0), ("take", 1, 0)], [0], 1), [])

    def test_through_lines_behind_one_another(self):
        weave = [("source", 0), ("source", 1), ("take", 1, 0), ("pair", 2, 1), ("window", 2, 3), ("source", 2)]
        self.assertEqual(gone_at_first(weave, [5], 3), [0, 1])
        self.assertEqual(gone_at_first(weave, [2], 3), [1, 2])
        self.assertEqual(gone_at_first(weave, [4], 3), [2])
        self.assertEqual(gone_at_first(weave, [4, 5], 3), [])

    def test_sources_that_no_line_names(self):
        self.assertEqual(gone_at_first([("source", 2)], [0], 5), [0, 1, 3, 4])
        self.assertEqual(gone_at_first([("source", 0)], [0], 2), [1])

    def test_both_are_told_rising(self):
        weave = [("source", 4), ("source", 1), ("pair", 0, 1), ("source", 3)]
        self.assertEqual(gone_at_first(weave, [3], 6), [0, 1, 2, 4, 5])
        self.assertEqual(gone_at_first([("source", 3), ("source", 1), ("source", 0)], [2], 5), [1, 2, 3, 4])

    def test_rising_even_where_a_is_behind_b(self):
        weave = [("source", 2), ("source", 0), ("source", 1), ("chain", 0, 1), ("merge", 3, 2)]
        self.assertEqual(gone_at_first(weave, [], 3), [0, 1, 2])

    def test_no_outlet(self):
        self.assertEqual(gone_at_first([("source", 0), ("group", 2, 0)], [], 2), [0, 1])
        self.assertEqual(gone_at_first([("source", 0)], [], 1), [0])

    def test_a_line_in_which_an_outlet_and_a_line_let_go_had_places(self):
        run = Run([("source", 0), ("take", 2, 0)], [0], lists_of(1))
        self.assertEqual(pulls(run, 0, 4), [(1, [0], []), (2, [0], []), (3, [0], []), (None, [0], [0])])


class AtTheEndTests(unittest.TestCase):
    def gives(self, weave, out, lists, want):
        run = Run(weave, [out], lists)
        self.assertEqual(pulls(run, 0, len(want)), want)
        self.assertEqual(pulls(run, 0, 2), [(None, [], [])] * 2)

    def test_a_source_at_its_end(self):
        self.gives([("source", 0)], 0, [[5]], [(5, [0], []), (None, [0], [0])])
        self.gives([("source", 0)], 0, [[]], [(None, [0], [0])])

    def test_a_take_on_the_pull_behind_its_last_item(self):
        self.gives([("source", 0), ("take", 1, 0)], 1, [[5, 6]], [(5, [0], []), (None, [], [0])])
        self.gives([("source", 0), ("take", 1, 0)], 1, [[5]], [(5, [0], []), (None, [], [0])])
        self.gives([("source", 0), ("take", 0, 0)], 1, [[5]], [(None, [], [0])])
        self.gives([("source", 0), ("take", 2, 0)], 1, [[5]], [(5, [0], []), (None, [0], [0])])

    def test_a_while_with_the_first_that_fails(self):
        line = ("while", (("below", 6),), 0)
        self.gives([("source", 0), line], 1, [[5, 6, 7]], [(5, [0], []), (None, [0], [0])])

    def test_lines_that_end_with_a(self):
        for line in (
            ("map", (("add", 0),), 0), ("keep", (("below", 9),), 0), ("skip", 0, 0), ("fold", "most", 0, 0),
        ):
            self.gives([("source", 0), line], 1, [[5, 6]], [(5, [0], []), (6, [0], []), (None, [0], [0])])
        self.gives([("source", 0), ("skip", 5, 0)], 1, [[5, 6]], [(None, [0] * 3, [0])])
        self.gives([("source", 0), ("window", 2, 0)], 1, [[5, 6]], [((5, 6), [0, 0], []), (None, [0], [0])])

    def test_a_group_gives_its_last_item_behind_a_s_end(self):
        self.gives([("source", 0), ("group", 2, 0)], 1, [[5, 7]], [((1, (5, 7)), [0] * 3, [0]), (None, [], [])])
        weave = [("source", 0), ("source", 1), ("group", 2, 0), ("pair", 2, 1)]
        self.gives(weave, 3, [[5], [8, 9]], [(((1, (5,)), 8), [0, 0, 1], [0]), (None, [], [1])])

    def test_a_pair_where_a_ends_first(self):
        weave = [("source", 0), ("source", 1), ("pair", 0, 1)]
        self.gives(weave, 2, [[5], [6, 7]], [((5, 6), [0, 1], []), (None, [0], [0, 1])])

    def test_a_pair_where_b_ends_first(self):
        weave = [("source", 0), ("source", 1), ("pair", 0, 1)]
        self.gives(weave, 2, [[5, 6], [7]], [((5, 7), [0, 1], []), (None, [0, 1], [1, 0])])

    def test_a_chain_and_a_merge(self):
        weave = [("source", 0), ("source", 1), ("chain", 0, 1)]
        self.gives(weave, 2, [[5], [6]], [(5, [0], []), (6, [0, 1], [0]), (None, [1], [1])])
        weave = [("source", 0), ("source", 1), ("merge", 0, 1)]
        self.gives(weave, 2, [[5], [6]], [(5, [0, 1], []), (6, [0], [0]), (None, [1], [1])])
        self.gives(weave, 2, [[7], [6]], [(6, [0, 1], []), (7, [1], [1]), (None, [0], [0])])

    def test_a_line_ahead_that_another_wants_does_not_let_go(self):
        run = Run([("source", 0), ("take", 1, 0), ("skip", 0, 0)], [1, 2], [[5, 6]])
        self.assertEqual(pulls(run, 0, 2), [(5, [0], []), (None, [], [])])
        self.assertEqual(pulls(run, 1, 3), [(5, [], []), (6, [0], []), (None, [0], [0])])

    def test_an_end_found_by_one_outlet_lets_go_for_the_other_too(self):
        run = Run([("source", 0), ("take", 1, 0)], [1, 1], [[5, 6]])
        self.assertEqual(pulls(run, 0, 2), [(5, [0], []), (None, [], [0])])
        self.assertEqual(pulls(run, 1, 3), [(5, [], []), (None, [], []), (None, [], [])])


class OutletTests(unittest.TestCase):
    def let_go(self, run, j):
        """The sources that were let go of with the outlet."""
        gone, asked = len(run.gone()), run.asked()
        self.assertIsNone(run.let_go(j))
        self.assertEqual(run.asked(), asked)
        return run.gone()[gone:]

    def test_ahead_of_the_first_pull_and_later(self):
        self.assertEqual(self.let_go(Run([("source", 0)], [0], lists_of(1)), 0), [0])
        run = Run([("source", 0), ("keep", (("over", 1),), 0)], [1], lists_of(1))
        self.assertEqual(run.pull(0), 2)
        self.assertEqual(self.let_go(run, 0), [0])

    def test_the_last_of_a_line_s_outlets(self):
        run = Run([("source", 0)], [0, 0, 0], lists_of(1))
        self.assertEqual([self.let_go(run, j) for j in (1, 0, 2)], [[], [], [0]])

    def test_at_its_end(self):
        run = Run([("source", 0)], [0], [[]])
        self.assertEqual(pulls(run, 0, 1), [(None, [0], [0])])
        self.assertEqual(self.let_go(run, 0), [])
        run = Run([("source", 0), ("take", 1, 0)], [1], [[5]])
        self.assertEqual(pull(run, 0), (5, [0], []))
        self.assertEqual(self.let_go(run, 0), [0])

    def test_the_others_go_on(self):
        run = Run([("source", 0), ("window", 2, 0)], [0, 1, 0], [[1, 2, 3]])
        self.assertEqual((run.pull(0), run.pull(1)), (1, (1, 2)))
        self.assertEqual(self.let_go(run, 0), [])
        self.assertEqual(pulls(run, 2, 2), [(1, [], []), (2, [], [])])
        self.assertEqual(self.let_go(run, 2), [])
        self.assertEqual(pulls(run, 1, 2), [((2, 3), [0], []), (None, [0], [0])])

    def test_a_line_that_two_others_name(self):
        weave = [("source", 0), ("skip", 1, 0), ("take", 2, 1), ("map", (("add", 5),), 1)]
        run = Run(weave, [2, 3], lists_of(1))
        self.assertEqual(self.let_go(run, 0), [])
        self.assertEqual(all_of(run, 1), [7, 8])
        self.assertEqual(run.gone(), [0])
        run = Run(weave, [2, 3], lists_of(1))
        self.assertEqual([self.let_go(run, j) for j in (1, 0)], [[], [0]])

    def test_a_s_place_ahead_of_b_s(self):
        weave = [("source", 0), ("source", 1), ("pair", 1, 0), ("pair", 0, 1)]
        self.assertEqual(self.let_go(Run(weave, [2], lists_of(2)), 0), [1, 0])
        self.assertEqual(self.let_go(Run(weave, [3], lists_of(2)), 0), [0, 1])
        for word in ("chain", "merge"):
            weave = [("source", 0), ("source", 1), (word, 1, 0)]
            self.assertEqual(self.let_go(Run(weave, [2], lists_of(2)), 0), [1, 0])

    def test_one_after_the_other_through_lines_behind_one_another(self):
        # 6 lets go of 4, which lets go of 3 and then of 0, ahead of 5 with 1 and 2.
        weave = [
            ("source", 0), ("source", 1), ("source", 2), ("source", 3), ("merge", 3, 0), ("chain", 2, 1),
            ("pair", 4, 5), ("take", 9, 6),
        ]
        self.assertEqual(self.let_go(Run(weave, [7], lists_of(4)), 0), [3, 0, 2, 1])
        self.assertEqual(self.let_go(Run(weave[:6] + [("pair", 5, 4)], [6], lists_of(4)), 0), [2, 1, 3, 0])

    def test_a_line_that_is_named_twice_lets_go_with_the_second_place(self):
        weave = [("source", 0), ("source", 1), ("pair", 0, 1), ("pair", 2, 0)]
        # The first place lets 2 let go, 0 is wanted by 3's second place still.
        self.assertEqual(self.let_go(Run(weave, [3], lists_of(2)), 0), [1, 0])
        for word in ("chain", "pair", "merge"):
            run = Run([("source", 0), (word, 0, 0)], [1], lists_of(1))
            self.assertEqual(self.let_go(run, 0), [0])

    def test_lines_at_their_end_let_go_no_second_time(self):
        weave = [("source", 0), ("source", 1), ("take", 1, 0), ("chain", 2, 1)]
        run = Run(weave, [3], lists_of(2))
        self.assertEqual(pulls(run, 0, 2), [(1, [0], []), (11, [1], [0])])
        self.assertEqual(self.let_go(run, 0), [1])
        self.assertEqual(run.gone(), [0, 1])

    def test_all_sources_are_gone_behind_the_last(self):
        weave = [("source", 2), ("source", 0), ("merge", 0, 1), ("take", 2, 2), ("pair", 3, 1), ("window", 2, 0)]
        run = Run(weave, [4, 5, 2], lists_of(4))
        self.assertEqual(run.gone(), [1, 3])
        self.assertEqual(len(all_of(run, 0)), 2)
        self.assertEqual(self.let_go(run, 2), [0])
        self.assertEqual(len(all_of(run, 1)), 2)
        self.assertEqual(run.gone(), [1, 3, 0, 2])
        run = Run(weave, [4, 5, 2], lists_of(4))
        self.assertEqual([self.let_go(run, j) for j in (1, 0, 2)], [[], [], [2, 0]])
        run = Run(weave, [4, 5, 2], lists_of(4))
        self.assertEqual([self.let_go(run, j) for j in (2, 0, 1)], [[], [0], [2]])


if __name__ == "__main__":
    unittest.main()
