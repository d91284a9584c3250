"""What `Push` refuses: BadLine, NoOutlet, LetGo, NoSource and Over; and that what is refused changes nothing."""

import unittest

from pushes import come
from test_refusals import BAD, SOURCE
from weavepull.errors import BadLine, LetGo, NoOutlet, NoSource, Over
from weavepull.pushing import Push


class BadLineTests(unittest.TestCase):
    def test_a_weave_that_cannot_be_ahead_of_all_else(self):
        for weave, at, why in BAD:
            for outs in ([], [0], [-1], [99], [0, 99]):
                with self.assertRaises(BadLine) as caught:
                    Push(weave, outs, 1)
                self.assertEqual((caught.exception.at, caught.exception.why), (at, why))

    def test_a_source_is_one_of_so_many(self):
        for many in (0, 1, 2):
            with self.assertRaises(BadLine) as caught:
                Push([("source", 2)], [9], many)
            self.assertEqual((caught.exception.at, caught.exception.why), (0, "place"))
        self.assertEqual(Push([("source", 2)], [0], 3).give(2, 5), [(0, 5)])


class RefusedTests(unittest.TestCase):
    def refused(self, error, push, called):
        """The call is refused, no second time otherwise; nothing follows from it, nothing is let go by it."""
        gone = push.gone()
        for _ in range(2):
            with self.assertRaises(error):
                called()
        self.assertEqual(push.gone(), gone)
        self.assertEqual(push.follows(), [])


class OutletTests(RefusedTests):
    def test_a_number_that_is_no_line_s(self):
        for outs in ([2], [-1], [-2], [1000], [0, 2], [2, 0], [0, 1, -1]):
            with self.assertRaises(NoOutlet, msg=outs):
                Push([SOURCE, ("take", 2, 0)], outs, 1)

    def test_no_such_outlet(self):
        for outs in ([], [0], [0, 0]):
            push = Push([SOURCE], outs, 2)
            for j in (-1, -2, len(outs), len(outs) + 1, 1000):
                self.refused(NoOutlet, push, lambda: push.let_go(j))

    def test_one_that_was_let_go(self):
        push = Push([SOURCE], [0, 0], 1)
        push.give(0, 5)
        push.let_go(1)
        self.refused(LetGo, push, lambda: push.let_go(1))
        self.assertEqual((push.give(0, 6), push.end(0)), ([(0, 6)], [(0, None)]))
        push.let_go(0)
        self.refused(LetGo, push, lambda: push.let_go(0))
        self.refused(NoOutlet, push, lambda: push.let_go(2))


class SourceTests(RefusedTests):
    def test_no_such_source(self):
        for many in (1, 2, 5):
            push = Push([SOURCE], [0], many)
            for k in (-1, -many, many, many + 1, 1000, -1000):
                self.refused(NoSource, push, lambda: push.give(k, 5))
                self.refused(NoSource, push, lambda: push.end(k))
            self.assertEqual([push.give(0, 5), push.end(0)], [[(0, 5)], [(0, None)]])

    def test_an_end_told_twice_and_a_number_behind_an_end(self):
        push = Push([SOURCE, ("source", 1), ("chain", 0, 1)], [2, 0], 2)
        push.give(0, 5)
        push.end(0)
        self.refused(Over, push, lambda: push.end(0))
        self.refused(Over, push, lambda: push.give(0, 6))
        self.assertEqual([push.give(1, 7), push.end(1)], [[(0, 7)], [(0, None)]])
        for k in (0, 1):
            self.refused(Over, push, lambda: push.end(k))
            self.refused(Over, push, lambda: push.give(k, 6))

    def test_behind_an_end_that_no_line_has_found_yet(self):
        push = Push([SOURCE, ("source", 1), ("chain", 0, 1)], [2], 2)
        push.give(1, 7)
        push.end(1)
        self.refused(Over, push, lambda: push.end(1))
        self.refused(Over, push, lambda: push.give(1, 8))
        self.assertEqual(push.end(0), [(0, 7), (0, None)])

    def test_of_a_source_that_was_let_go(self):
        push = Push([SOURCE, ("take", 1, 0)], [1], 2)
        self.assertEqual(push.give(0, 5), [(0, 5), (0, None)])
        self.assertEqual(push.gone(), [1, 0])
        for k in (0, 1):
            self.assertEqual([push.give(k, 6), push.give(k, 7), push.end(k)], [[], [], []])
            self.refused(Over, push, lambda: push.end(k))
            self.refused(Over, push, lambda: push.give(k, 8))

    def test_what_follows_ahead_of_all_waits_for_what_is_not_refused(self):
        push = Push([SOURCE, ("take", 0, 0)], [1], 2)
        for called in (lambda: push.give(2, 5), lambda: push.end(-1), lambda: push.let_go(1)):
            with self.assertRaises((NoSource, NoOutlet)):
                called()
        self.assertEqual(push.gone(), [1])
        self.assertEqual((push.follows(), push.gone()), ([(0, None)], [1, 0]))

    def test_what_comes_later_follows_as_if_it_had_not_been(self):
        weave = [SOURCE, ("source", 1), ("merge", 0, 1), ("window", 2, 2), ("chain", 3, 3)]
        told = [(0, 4), (1, 2), (1, 6), (1, None), (0, 6), (0, 1), (0, None)]
        plain, teased = Push(weave, [4, 2], 2), Push(weave, [4, 2], 2)
        ended = []
        for k, item in told:
            for called in (lambda: teased.give(2, 1), lambda: teased.end(-1), lambda: teased.let_go(2)):
                with self.assertRaises((NoSource, NoOutlet)):
                    called()
            for over in ended:
                with self.assertRaises(Over):
                    teased.give(over, 0)
            self.assertEqual(come(teased, k, item), come(plain, k, item))
            self.assertEqual(teased.gone(), plain.gone())
            if item is None:
                ended.append(k)


if __name__ == "__main__":
    unittest.main()
