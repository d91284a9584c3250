"""`Push` of one source and one outlet: what follows ahead of all that comes, behind each number and the end
(point 11)."""

import unittest

from pushes import pushed
from weavepull.plain import plain
from weavepull.pushing import Push

LONG = [(at * 7919) % 1000003 for at in range(200)]


class OneLineTests(unittest.TestCase):
    def gives(self, line, numbers, want, kind=()):
        """The line gives this ahead of all, behind each number, behind the end; it is its whole list and None."""
        told = pushed(line, numbers, kind)
        self.assertEqual(told, want, (line, numbers))
        weave = [("source", 0), *kind, line]
        whole = [item for answer in told for item in answer]
        self.assertEqual(whole, plain(weave, [numbers])[-1] + [None], (line, numbers))

    def test_a_source(self):
        push = Push([("source", 0)], [0], 1)
        self.assertEqual(push.follows(), [])
        self.assertEqual([push.give(0, n) for n in (5, 0, 1000002)], [[(0, 5)], [(0, 0)], [(0, 1000002)]])
        self.assertEqual(push.end(0), [(0, None)])
        self.assertEqual(push.follows(), [])
        push = Push([("source", 0)], [0], 1)
        self.assertEqual((push.end(0), push.follows()), ([(0, None)], []))

    def test_map(self):
        self.gives(("map", (("times", 2), ("add", 1)), 0), [4, 0], [[], [9], [1], [None]])
        self.gives(("map", (("both",),), 0), [4], [[], [(4, 4)], [None]])
        self.gives(("map", (("minus",),), 0), [], [[], [None]])
        self.gives(("map", (("sum",),), 1), [4, 5, 6], [[], [], [9], [11], [None]], [("window", 2, 0)])

    def test_keep(self):
        self.gives(("keep", (("rest", 2, 0), ("over", 1)), 0), [1, 4, 0, 3, 6], [[], [], [4], [], [], [6], [None]])
        self.gives(("keep", (("below", 0),), 0), [1, 4], [[], [], [], [None]])
        self.gives(("keep", (("below", 1),), 0), [0, 1], [[], [0], [], [None]])

    def test_while_ends_ahead_of_its_source(self):
        self.gives(("while", (("below", 5),), 0), [1, 4, 5, 3], [[], [1], [4], [None], [], []])
        self.gives(("while", (("over", 4),), 0), [1, 5], [[], [None], [], []])
        self.gives(("while", (("below", 5),), 0), [1], [[], [1], [None]])
        self.gives(("while", (("below", 5),), 0), [], [[], [None]])

    def test_take_ends_ahead_of_its_source(self):
        self.gives(("take", 2, 0), [5, 6, 7], [[], [5], [6, None], [], []])
        self.gives(("take", 2, 0), [5, 6], [[], [5], [6, None], []])
        self.gives(("take", 2, 0), [5], [[], [5], [None]])
        self.gives(("take", 1, 0), [5, 6], [[], [5, None], [], []])

    def test_a_take_of_0_ends_ahead_of_all(self):
        self.gives(("take", 0, 0), [5, 6], [[None], [], [], []])
        self.gives(("take", 0, 0), [], [[None], []])
        self.gives(("fold", "add", 3, 1), [5], [[None], [], []], [("take", 0, 0)])

    def test_skip(self):
        self.gives(("skip", 2, 0), [5, 6, 7, 8], [[], [], [], [7], [8], [None]])
        self.gives(("skip", 2, 0), [5, 6], [[], [], [], [None]])
        self.gives(("skip", 3, 0), [5], [[], [], [None]])
        self.gives(("skip", 0, 0), [5], [[], [5], [None]])

    def test_group_holds_back_the_stretch_that_may_go_on(self):
        self.gives(("group", 3, 0), [1, 4, 2, 5, 3], [
            [], [], [], [(1, (1, 4))], [], [(2, (2, 5))], [(0, (3,)), None],
        ])
        self.gives(("group", 1, 0), [1, 2], [[], [], [], [(0, (1, 2)), None]])
        self.gives(("group", 2, 0), [], [[], [None]])

    def test_window(self):
        self.gives(("window", 2, 0), [5, 6, 7], [[], [], [(5, 6)], [(6, 7)], [None]])
        self.gives(("window", 3, 0), [5, 6], [[], [], [], [None]])
        self.gives(("window", 1, 0), [5], [[], [(5,)], [None]])
        self.gives(("window", 9, 0), LONG[:9], [[]] * 9 + [[tuple(LONG[:9])], [None]])

    def test_fold(self):
        for word, want in (("add", [7, 8, 13]), ("times", [10, 10, 50]), ("least", [2, 1, 1]), ("most", [5, 5, 5])):
            self.gives(("fold", word, 2, 0), [5, 1, 5], [[]] + [[n] for n in want] + [[None]])
        self.gives(("fold", "most", 2, 0), [], [[], [None]])

    def test_chain_of_a_line_with_itself(self):
        self.gives(("chain", 0, 0), [5, 6], [[], [5], [6], [5, 6, None]])
        self.gives(("chain", 1, 0), [5, 6, 7], [[], [5], [6, 5, 6], [7], [None]], [("take", 2, 0)])
        self.gives(("chain", 0, 1), [5, 6, 7], [[], [5], [6], [7], [5, 6, None]], [("take", 2, 0)])
        self.gives(("chain", 1, 1), [5, 6], [[None], [], [], []], [("take", 0, 0)])

    def test_pair_of_a_line_with_one_that_is_behind(self):
        self.gives(("pair", 0, 0), [5, 6], [[], [(5, 5)], [(6, 6)], [None]])
        self.gives(("pair", 0, 1), [5, 6, 7], [[], [], [(5, 6)], [(6, 7)], [None]], [("skip", 1, 0)])
        self.gives(("pair", 1, 0), [5, 6, 7], [[], [(5, 5)], [(6, 6), None], [], []], [("take", 2, 0)])
        self.gives(("pair", 0, 1), [5, 6, 7], [[], [(5, 5)], [(6, 6)], [None], []], [("take", 2, 0)])

    def test_merge_of_a_line_with_itself_and_one_that_is_behind(self):
        self.gives(("merge", 0, 0), [5, 3], [[], [5], [3], [5, 3, None]])
        self.gives(("merge", 0, 1), [5, 6, 7], [[], [], [5, 6], [6, 7], [7, None]], [("skip", 1, 0)])
        self.gives(("merge", 1, 0), [5, 6, 4], [[], [5, 5], [6], [4], [None]], [("take", 1, 0)])

    def test_long_ones(self):
        told = pushed(("map", (("add", 1),), 0), LONG)
        self.assertEqual(told, [[]] + [[(n + 1) % 1000003] for n in LONG] + [[None]])
        told = pushed(("chain", 0, 0), LONG)
        self.assertEqual(told, [[]] + [[n] for n in LONG] + [LONG + [None]])

    def test_without_follows_what_can_be_given_ahead_follows_behind_the_first_that_comes(self):
        self.assertEqual(Push([("source", 0), ("take", 0, 0)], [1], 1).give(0, 5), [(0, None)])
        self.assertEqual(Push([("source", 0), ("take", 0, 0)], [1], 1).end(0), [(0, None)])
        push = Push([("source", 0), ("source", 1), ("take", 0, 0)], [1, 2], 2)
        self.assertEqual(push.give(1, 5), [(0, 5), (1, None)])


class KindsOfAnswersTests(unittest.TestCase):
    def test_lists_of_tuples(self):
        push = Push([("source", 0), ("take", 1, 0)], [1, 0], 1)
        for answer in (push.follows(), push.give(0, 5), push.end(0), push.follows()):
            self.assertIs(type(answer), list)
            self.assertEqual([type(pair) for pair in answer], [tuple] * len(answer))
        self.assertEqual(push.gone(), [0])
        self.assertIsNone(push.let_go(0))

    def test_an_item_of_each_kind(self):
        weave = [
            ("source", 0), ("map", (("both",),), 0), ("window", 2, 1), ("group", 10, 0), ("pair", 2, 3),
        ]
        push = Push(weave, [0, 1, 2, 3, 4], 1)
        self.assertEqual(push.give(0, 5), [(0, 5), (1, (5, 5))])
        self.assertEqual(push.give(0, 6), [
            (0, 6), (1, (6, 6)), (2, ((5, 5), (6, 6))), (3, (5, (5,))), (4, (((5, 5), (6, 6)), (5, (5,)))),
        ])
        self.assertEqual(push.end(0), [(0, None), (1, None), (2, None), (3, (6, (6,))), (3, None), (4, None)])


if __name__ == "__main__":
    unittest.main()
