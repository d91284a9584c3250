"""The whole program: runs, pushed weaves, texts and straight weaves of the same weave beside each other, and a weave of
24 lines (point 1 with all others)."""

import copy
import unittest

from pulls import all_of, pull
from pushes import come, events
from weavepull.errors import BadLine
from weavepull.lines import looked
from weavepull.needs import needs
from weavepull.notes import read, written
from weavepull.plain import plain
from weavepull.pushing import Push
from weavepull.straight import straight
from weavepull.weaving import Run

WEAVE = [
    ("source", 0), ("source", 1), ("map", (("times", 3), ("add", 1)), 0), ("map", (("add", 2),), 2),
    ("keep", (("rest", 2, 0),), 3), ("merge", 4, 1), ("take", 5, 5), ("take", 9, 6), ("window", 2, 7), ("pair", 8, 1),
    ("group", 3, 5),
]
OUTS = [9, 10, 7]
LISTS = [[1, 4, 3, 5, 2], [8, 1, 9]]

# All 24 lines, each but the sources over the ones ahead, with all twelve words.
LONGEST = [
    ("source", 2), ("source", 0), ("source", 1), ("chain", 0, 1), ("merge", 3, 2), ("map", (("add", 1),), 4),
    ("map", (("times", 2),), 5), ("keep", (("over", 3),), 6), ("keep", (("below", 40),), 7), ("skip", 1, 8),
    ("skip", 1, 9), ("take", 9, 10), ("take", 8, 11), ("while", (("below", 39),), 12), ("while", (("over", 1),), 13),
    ("fold", "add", 0, 14), ("group", 4, 15), ("map", (("second",), ("sum",)), 16), ("pair", 17, 2), ("window", 2, 18),
    ("map", (("many",),), 19), ("chain", 20, 4), ("pair", 19, 21), ("window", 1, 22),
]
LONGEST_LISTS = [[7, 3, 9, 1, 6, 2], [2, 6, 6, 12, 3], [5, 8, 1, 4, 10]]


class BesideEachOtherTests(unittest.TestCase):
    def test_two_runs_and_a_pushed_weave_in_turn(self):
        alone = Run(WEAVE, OUTS, LISTS)
        want = [pull(alone, j) for j in (0, 1, 2, 0, 1, 2, 0, 1, 2, 0)]
        lonely = Push(WEAVE, OUTS, 2)
        told = events(LISTS, [0, 1, 0, 0, 1, 1, 0, 1, 0, 0])
        answers = [(come(lonely, k, item), lonely.gone()) for k, item in told]
        weave, outs, lists = copy.deepcopy((WEAVE, OUTS, LISTS))
        one, push, other = Run(weave, outs, lists), Push(weave, outs, 2), Run(weave, outs, lists)
        given = [[], [], []]
        for turn, j in enumerate((0, 1, 2, 0, 1, 2, 0, 1, 2, 0)):
            given[0].append(pull(one, j))
            answer = come(push, *told[turn])
            given[1].append((list(answer), push.gone()))
            given[2].append(pull(other, j))
            # Nobody may be hit by what happens to lists that were told, or to those that were handed in.
            for row in (answer, push.gone(), one.gone(), one.asked(), other.gone(), other.asked()):
                row.append(turn)
                row.reverse()
                row.clear()
            lists[turn % 2].reverse()
            weave.reverse()
            outs.append(turn)
        self.assertEqual(given, [want, answers, want])

    def test_pulled_and_pushed_give_whole_lines(self):
        told = plain(WEAVE, LISTS)
        run, push = Run(WEAVE, OUTS, LISTS), Push(WEAVE, OUTS, 2)
        given = [[] for _ in OUTS]
        for k, item in events(LISTS, [1, 1, 0, 0, 0, 1, 0, 0, 0, 1]):
            for j, item in come(push, k, item):
                given[j].append(item)
        for j, out in enumerate(OUTS):
            self.assertEqual(all_of(run, j), told[out])
            self.assertEqual(given[j], told[out] + [None])

    def test_nothing_that_is_handed_in_is_changed(self):
        weave, outs, lists, counts = copy.deepcopy((WEAVE, OUTS, LISTS, [2, 0, 9]))
        looked(weave, 2)
        plain(weave, lists)
        needs(weave, outs, counts, lists)
        straight(weave, outs)
        written(weave)
        run, push = Run(weave, outs, lists), Push(weave, outs, 2)
        for j in range(3):
            all_of(run, j)
        for k, item in events(lists, [0, 1] * 4 + [0, 0]):
            come(push, k, item)
        run.let_go(0)
        push.let_go(1)
        self.assertEqual((weave, outs, lists, counts), (WEAVE, OUTS, LISTS, [2, 0, 9]))

    def test_lists_that_are_given_back_are_new_ones(self):
        for called in (
            lambda: looked(WEAVE, 2), lambda: plain(WEAVE, LISTS), lambda: needs(WEAVE, OUTS, [1, 1, 1], LISTS),
            lambda: straight(WEAVE, OUTS)[0], lambda: straight(WEAVE, OUTS)[1], lambda: read(written(WEAVE)),
        ):
            told = called()
            want = copy.deepcopy(told)
            told.pop()
            if isinstance(told[0], list):
                told[0].append(5)
            self.assertEqual(called(), want)
        self.assertEqual(LISTS, [[1, 4, 3, 5, 2], [8, 1, 9]])


class LongestTests(unittest.TestCase):
    OUTS = [23, 15, 21, 4, 23]

    def test_24_lines(self):
        self.assertEqual(len(LONGEST), 24)
        self.assertEqual(len({line[0] for line in LONGEST}), 12)
        self.assertEqual(len(looked(LONGEST, 3)), 24)
        told = plain(LONGEST, LONGEST_LISTS)
        run = Run(LONGEST, self.OUTS, LONGEST_LISTS)
        self.assertEqual([all_of(run, j) for j in range(5)], [told[out] for out in self.OUTS])
        self.assertEqual(len(told[23]), 4)
        self.assertEqual(sorted(run.gone()), [0, 1, 2])

    def test_24_lines_pushed(self):
        told = plain(LONGEST, LONGEST_LISTS)
        for order in ([0] * 7 + [1] * 6 + [2] * 6, [2] * 6 + [1] * 6 + [0] * 7, [0, 1, 2] * 6 + [0]):
            push = Push(LONGEST, self.OUTS, 3)
            given = [[] for _ in self.OUTS]
            for k, item in events(LONGEST_LISTS, order):
                for j, item in come(push, k, item):
                    given[j].append(item)
            self.assertEqual(given, [told[out] + [None] for out in self.OUTS], order)
            self.assertEqual(sorted(push.gone()), [0, 1, 2], order)

    def test_24_lines_straight_and_written(self):
        self.assertEqual(read(written(LONGEST)), LONGEST)
        new, outs = straight(LONGEST, [23, 23])
        self.assertEqual((len(new), outs), (19, [18, 18]))
        self.assertEqual(plain(new, LONGEST_LISTS)[18], plain(LONGEST, LONGEST_LISTS)[23])
        old_run, new_run = Run(LONGEST, [23], LONGEST_LISTS), Run(new, [18], LONGEST_LISTS)
        for _ in range(20):
            self.assertEqual(pull(new_run, 0), pull(old_run, 0))

    def test_25_lines(self):
        weave = LONGEST + [("take", 1, 23)]
        for called in (
            lambda: looked(weave, 3), lambda: plain(weave, LONGEST_LISTS), lambda: Run(weave, [0], LONGEST_LISTS),
            lambda: needs(weave, [0], [1], LONGEST_LISTS), lambda: Push(weave, [0], 3), lambda: straight(weave, [0]),
        ):
            with self.assertRaises(BadLine) as caught:
                called()
            self.assertEqual((caught.exception.at, caught.exception.why), (24, "many"))
        self.assertEqual(read(written(weave)), weave)

    def test_lines_behind_one_another(self):
        weave = [("source", 0)] + [("skip", 1, at) if at % 2 else ("fold", "add", 0, at) for at in range(23)]
        numbers = list(range(200))
        push, run = Push(weave, [23], 1), Run(weave, [23], [numbers])
        given = [item for number in numbers for _, item in push.give(0, number)] + [item for _, item in push.end(0)]
        self.assertEqual(given, all_of(run, 0) + [None])
        self.assertEqual(len(given), 190)
        self.assertEqual((push.gone(), run.gone()), ([0], [0]))


if __name__ == "__main__":
    unittest.main()
