"""`Push` of two and more sources and outlets: what follows, and which sources are let go of, and when (point 11 with
points 7 to 9)."""

import copy
import unittest

from pushes import all_orders, come, events
from weavepull.plain import plain
from weavepull.pushing import Push

TWO = [("source", 0), ("source", 1)]

# All words of two lines over two sources, and lines that end ahead of their sources.
WEAVE = TWO + [
    ("chain", 0, 1), ("pair", 0, 1), ("merge", 0, 1), ("take", 1, 0), ("chain", 5, 1), ("window", 2, 4), ("pair", 7, 6),
]


class TwoSourcesTests(unittest.TestCase):
    def gives(self, line, told, want):
        """The line, as outlet 0, gives these items and lets go of these sources behind each thing that comes."""
        push = Push(TWO + [line], [2], 2)
        self.assertEqual((push.follows(), push.gone()), ([], []))
        answers = []
        for k, item in told:
            gone = len(push.gone())
            answers.append(([item for _, item in come(push, k, item)], push.gone()[gone:]))
            self.assertEqual(push.follows(), [])
        self.assertEqual(answers, want, (line, told))

    def test_a_chain_s_a_at_its_end_though_nothing_of_b_has_come(self):
        chain = ("chain", 0, 1)
        self.gives(chain, [(0, 5), (0, None), (1, 6), (1, None)], [([5], []), ([], [0]), ([6], []), ([None], [1])])
        self.gives(chain, [(0, None), (1, None)], [([], [0]), ([None], [1])])

    def test_a_chain_s_b_that_came_ahead_of_a_s_end(self):
        told = [(1, 6), (1, 7), (0, 5), (1, None), (0, None)]
        self.gives(("chain", 0, 1), told, [([], []), ([], []), ([5], []), ([], []), ([6, 7, None], [0, 1])])
        self.gives(("chain", 1, 0), told, [([6], []), ([7], []), ([], []), ([5], [1]), ([None], [0])])

    def test_a_pair_that_holds_a_s_item_while_b_s_has_not_come(self):
        told = [(0, 5), (0, 6), (1, 7), (1, None)]
        self.gives(("pair", 0, 1), told, [([], []), ([], []), ([(5, 7)], []), ([None], [1, 0])])
        told = [(0, 5), (0, None), (1, 7), (1, 8)]
        self.gives(("pair", 0, 1), told, [([], []), ([], []), ([(5, 7), None], [0, 1]), ([], [])])

    def test_a_pair_does_not_want_b_behind_a_s_end(self):
        self.gives(("pair", 0, 1), [(0, None), (1, 7), (1, None)], [([None], [0, 1]), ([], []), ([], [])])
        self.gives(("pair", 0, 1), [(1, None), (0, 5)], [([], []), ([None], [1, 0])])
        self.gives(("pair", 0, 1), [(1, None), (0, None)], [([], []), ([None], [0, 1])])

    def test_a_pair_of_b_ahead_of_a(self):
        told = [(1, 7), (1, 8), (0, 5), (0, 6), (0, None)]
        self.gives(("pair", 0, 1), told, [([], []), ([], []), ([(5, 7)], []), ([(6, 8)], []), ([None], [0, 1])])

    def test_a_merge_that_holds_one(self):
        told = [(0, 5), (1, 4), (1, 5), (0, None), (1, 3), (1, None)]
        self.gives(("merge", 0, 1), told, [([], []), ([4], []), ([5], []), ([5], [0]), ([3], []), ([None], [1])])

    def test_a_merge_wants_a_ahead_of_b(self):
        told = [(1, 4), (1, 5), (1, None), (0, 5), (0, 1), (0, None)]
        nothing = [([], [])] * 3
        self.gives(("merge", 0, 1), told, nothing + [([4, 5], []), ([1], []), ([5, None], [0, 1])])
        self.gives(("merge", 1, 0), told, nothing + [([4, 5, 5], [1]), ([1], []), ([None], [0])])

    def test_a_merge_of_one_that_has_only_its_end(self):
        told = [(0, None), (1, 5), (1, 4), (1, None)]
        self.gives(("merge", 0, 1), told, [([], [0]), ([5], []), ([4], []), ([None], [1])])
        self.gives(("merge", 1, 0), told, [([], []), ([5], [0]), ([4], []), ([None], [1])])


class StandingTests(unittest.TestCase):
    """Pulls that stand in the midst of what a line makes."""

    def test_a_pair_of_windows_and_groups(self):
        push = Push(TWO + [("window", 3, 0), ("group", 2, 1), ("pair", 2, 3)], [4], 2)
        told = [(1, 2), (0, 1), (0, 2), (1, 4), (0, 3), (1, 5), (0, 4), (0, 5), (1, None)]
        answers = [come(push, k, item) for k, item in told]
        self.assertEqual(answers, [[]] * 5 + [[(0, ((1, 2, 3), (0, (2, 4))))]] + [[]] * 2 + [
            [(0, ((2, 3, 4), (1, (5,)))), (0, None)],
        ])
        self.assertEqual(push.gone(), [1, 0])

    def test_a_keep_and_a_skip_that_have_pulled_much(self):
        push = Push(TWO + [("keep", (("over", 9),), 0), ("skip", 3, 1), ("merge", 2, 3)], [4], 2)
        told = [(0, 1), (1, 1), (1, 2), (0, 2), (1, 3), (1, 40), (0, 3), (0, 50), (1, 60), (0, None), (1, None)]
        answers = [[item for _, item in come(push, k, item)] for k, item in told]
        self.assertEqual(answers, [[]] * 7 + [[40], [50], [60], [None]])
        self.assertEqual(push.gone(), [0, 1])

    def test_another_outlet_goes_on_where_one_stands(self):
        # Both outlets come to the window that the first of them stands in, and it is made once.
        push = Push(TWO + [("window", 2, 0), ("pair", 2, 1)], [3, 2, 0], 2)
        self.assertEqual(push.give(0, 1), [(2, 1)])
        self.assertEqual(push.give(0, 2), [(1, (1, 2)), (2, 2)])
        self.assertEqual(push.give(0, 3), [(1, (2, 3)), (2, 3)])
        self.assertEqual(push.give(1, 9), [(0, ((1, 2), 9))])
        self.assertEqual(push.end(0), [(1, None), (2, None)])
        self.assertEqual(push.gone(), [0])
        self.assertEqual(push.give(1, 8), [(0, ((2, 3), 8)), (0, None)])
        self.assertEqual(push.gone(), [0, 1])

    def test_others_go_on_where_the_one_that_stands_is_let_go(self):
        push = Push(TWO + [("group", 2, 0), ("chain", 0, 1)], [2, 2, 3], 2)
        self.assertEqual(push.give(0, 2), [(2, 2)])
        self.assertEqual(push.give(0, 4), [(2, 4)])
        push.let_go(0)
        self.assertEqual(push.give(0, 5), [(1, (0, (2, 4))), (2, 5)])
        push.let_go(1)
        self.assertEqual(push.gone(), [])
        self.assertEqual(push.end(0), [])
        self.assertEqual(push.gone(), [0])
        self.assertEqual(push.end(1), [(2, None)])

    def test_ends_that_are_found_ahead_of_all(self):
        push = Push(TWO + [("take", 0, 0), ("chain", 2, 1)], [3], 2)
        self.assertEqual(push.gone(), [])
        self.assertEqual((push.follows(), push.gone()), ([], [0]))
        self.assertEqual((push.give(0, 5), push.give(1, 6)), ([], [(0, 6)]))


class OutletsTests(unittest.TestCase):
    def test_one_line_twice(self):
        push = Push([("source", 0)], [0, 0], 1)
        self.assertEqual(push.follows(), [])
        self.assertEqual(push.give(0, 5), [(0, 5), (1, 5)])
        self.assertEqual(push.end(0), [(0, None), (1, None)])

    def test_in_their_order_each_with_all_that_it_gives(self):
        weave = [("source", 0), ("source", 1), ("chain", 0, 1), ("take", 1, 2)]
        push = Push(weave, [3, 1, 2, 0, 2], 2)
        self.assertEqual(push.give(1, 7), [(1, 7)])
        self.assertEqual(push.give(1, 8), [(1, 8)])
        self.assertEqual(push.end(0), [(0, 7), (0, None), (2, 7), (2, 8), (3, None), (4, 7), (4, 8)])
        self.assertEqual(push.end(1), [(1, None), (2, None), (4, None)])
        self.assertEqual(push.gone(), [0, 1])

    def test_no_outlet_at_all(self):
        push = Push(WEAVE, [], 3)
        self.assertEqual((push.follows(), push.gone()), ([], [0, 1, 2]))
        self.assertEqual([push.give(1, 5), push.end(1), push.end(2), push.follows()], [[]] * 4)
        self.assertEqual(push.gone(), [0, 1, 2])

    def test_an_end_is_given_once(self):
        push = Push([("source", 0), ("take", 1, 0)], [1, 0, 1], 1)
        self.assertEqual(push.give(0, 5), [(0, 5), (0, None), (1, 5), (2, 5), (2, None)])
        self.assertEqual(push.give(0, 6), [(1, 6)])
        self.assertEqual(push.end(0), [(1, None)])
        self.assertEqual(push.follows(), [])


class GoneTests(unittest.TestCase):
    def test_at_the_beginning(self):
        weave = [("source", 2), ("source", 0), ("source", 5), ("pair", 0, 2)]
        self.assertEqual(Push(weave, [1], 7).gone(), [1, 2, 3, 4, 5, 6])
        self.assertEqual(Push(weave, [3], 6).gone(), [0, 1, 3, 4])
        self.assertEqual(Push(weave, [3, 1], 6).gone(), [1, 3, 4])

    def test_by_what_comes(self):
        push = Push(TWO + [("while", (("below", 5),), 1), ("take", 2, 0)], [2, 3], 2)
        for told, want in (((0, 1), []), ((1, 5), [1]), ((0, 2), [1, 0]), ((0, 3), [1, 0]), ((1, None), [1, 0])):
            come(push, *told)
            self.assertEqual(push.gone(), want)

    def test_by_letting_go(self):
        weave = TWO + [("pair", 1, 0), ("merge", 0, 1)]
        push = Push(weave, [2, 3], 2)
        push.give(0, 5)
        self.assertIsNone(push.let_go(1))
        self.assertEqual(push.gone(), [])
        self.assertEqual(push.give(1, 6), [(0, (6, 5))])
        self.assertIsNone(push.let_go(0))
        self.assertEqual(push.gone(), [1, 0])

    def test_an_outlet_at_its_end_is_let_go_of_without_more(self):
        push = Push([("source", 0)], [0], 1)
        push.end(0)
        self.assertEqual(push.gone(), [0])
        self.assertIsNone(push.let_go(0))
        self.assertEqual(push.gone(), [0])

    def test_a_source_with_its_end_is_not_gone_ahead_of_being_asked_for_it(self):
        push = Push(TWO + [("chain", 0, 1)], [2], 2)
        push.end(1)
        self.assertEqual(push.gone(), [])
        self.assertEqual((push.end(0), push.gone()), ([(0, None)], [0, 1]))

    def test_what_comes_of_a_source_that_was_let_go_is_passed_over(self):
        push = Push(TWO + [("take", 1, 0), ("merge", 2, 1)], [3], 3)
        self.assertEqual(push.gone(), [2])
        told = [push.give(2, 5), push.give(0, 7), push.give(1, 9), push.gone()]
        self.assertEqual(told, [[], [], [(0, 7), (0, 9)], [2, 0]])
        told = [push.give(0, 8), push.give(0, 9), push.end(0), push.give(2, 1), push.end(2), push.gone()]
        self.assertEqual(told, [[], [], [], [], [], [2, 0]])
        self.assertEqual([push.give(1, 1), push.end(1)], [[(0, 1)], [(0, None)]])
        self.assertEqual(push.gone(), [2, 0, 1])

    def test_what_came_already_of_a_source_that_is_let_go_then_is_passed_over(self):
        push = Push(TWO + [("chain", 0, 1)], [2, 0], 2)
        self.assertEqual([push.give(1, 5), push.give(1, 6)], [[], []])
        push.let_go(0)
        self.assertEqual(push.gone(), [1])
        self.assertEqual([push.end(1), push.give(0, 7), push.end(0)], [[], [(1, 7)], [(1, None)]])


class UnlikeOrdersTests(unittest.TestCase):
    def test_all_that_is_given_is_each_line_s_list_and_its_end(self):
        lists = [[4, 1, 6], [2, 2, 5]]
        outs = [8, 2, 4, 3, 8, 0, 6, 7, 1]
        want = [plain(WEAVE, lists)[out] + [None] for out in outs]
        orders = all_orders([4, 4])
        self.assertEqual(len(orders), 70)
        for order in orders:
            push = Push(WEAVE, outs, 2)
            answers = [push.follows()] + [come(push, k, item) for k, item in events(lists, order)]
            given = [[] for _ in outs]
            for answer in answers:
                self.assertEqual([j for j, _ in answer], sorted(j for j, _ in answer), order)
                for j, item in answer:
                    given[j].append(item)
            self.assertEqual(given, want, order)
            self.assertEqual(sorted(push.gone()), [0, 1], order)

    def test_three_sources(self):
        lists = [[3, 8], [5], [1, 9]]
        weave = [("source", 2), ("source", 0), ("source", 1), ("merge", 0, 1), ("chain", 3, 2), ("pair", 2, 4)]
        want = [plain(weave, lists)[out] + [None] for out in (4, 5, 3)]
        for order in all_orders([3, 2, 3]):
            push = Push(weave, [4, 5, 3], 3)
            given = [[], [], []]
            for k, item in events(lists, order):
                for j, told in come(push, k, item):
                    given[j].append(told)
            self.assertEqual(given, want, order)


class KeptTests(unittest.TestCase):
    def test_what_was_handed_in_stays_and_may_be_changed(self):
        handed = (WEAVE, [8, 2, 2])
        weave, outs = copy.deepcopy(handed)
        one, other = Push(weave, outs, 2), Push(WEAVE, [8, 2, 2], 2)
        self.assertEqual((weave, outs), handed)
        weave[4] = ("merge", 1, 0)
        del weave[5:]
        outs.clear()
        for k, item in events([[4, 1, 6], [2, 2, 5]], [0, 1, 1, 0, 0, 1, 0, 1]):
            self.assertEqual(come(one, k, item), come(other, k, item))

    def test_lists_that_were_given_back_may_be_changed(self):
        push = Push(TWO, [0, 1], 3)
        answer = push.give(0, 5)
        answer.clear()
        gone = push.gone()
        gone.append(0)
        gone[0] = 9
        self.assertEqual((push.follows(), push.gone()), ([], [2]))
        answer.append((0, 5))
        self.assertEqual(push.give(0, 6), [(0, 6)])
        first = push.follows()
        first.append((1, 1))
        self.assertEqual(push.follows(), [])

    def test_two_of_one_weave_have_nothing_to_do_with_each_other(self):
        one, other = Push(WEAVE, [2], 2), Push(WEAVE, [2], 2)
        self.assertEqual((one.give(0, 5), one.end(0)), ([(0, 5)], []))
        self.assertEqual((other.follows(), other.gone()), ([], []))
        one.let_go(0)
        self.assertEqual((other.give(0, 6), other.end(1), other.end(0)), ([(0, 6)], [], [(0, None)]))
        self.assertEqual((one.gone(), other.gone()), ([0, 1], [0, 1]))


if __name__ == "__main__":
    unittest.main()
