"""`needs`: how often each source is asked, in whatever order the outlets are pulled (point 10)."""

import copy
import itertools
import unittest

from weavepull.needs import needs
from weavepull.weaving import Run

LONG = [(at * 7919) % 1000003 for at in range(200)]
WEAVE = [
    ("source", 0), ("source", 1), ("merge", 0, 1), ("group", 4, 2), ("keep", (("over", 3),), 0), ("pair", 4, 1),
    ("window", 3, 2), ("skip", 2, 4), ("take", 2, 7), ("chain", 8, 1),
]
LISTS = [[4, 1, 7, 2, 9, 5, 6], [1, 3, 3, 8]]


class OneOutletTests(unittest.TestCase):
    def needed(self, line, numbers, want):
        """A line of the source 0 pulled 0 times, once and so on asks so often; far more often asks no more."""
        weave = [("source", 0), line]
        got = [needs(weave, [1], [count], [numbers]) for count in range(len(want))]
        self.assertEqual(got, [[many] for many in want], line)
        for count in (len(want), 1000, 1000002, 10 ** 12):
            self.assertEqual(needs(weave, [1], [count], [numbers]), [want[-1]], (line, count))

    def test_a_source(self):
        for count, want in ((0, 0), (1, 1), (2, 2), (3, 3), (4, 4), (5, 4), (1000002, 4)):
            self.assertEqual(needs([("source", 0)], [0], [count], [[5, 6, 7]]), [want])
        self.assertEqual(needs([("source", 0)], [0], [5], [[]]), [1])
        self.assertEqual(needs([("source", 0)], [0], [200], [LONG]), [200])
        self.assertEqual(needs([("source", 0)], [0], [500], [LONG]), [201])

    def test_each_word(self):
        numbers = [5, 7, 2, 4, 9]
        self.needed(("map", (("add", 1),), 0), numbers, [0, 1, 2, 3, 4, 5, 6])
        self.needed(("fold", "add", 1, 0), numbers, [0, 1, 2, 3, 4, 5, 6])
        self.needed(("keep", (("rest", 2, 0),), 0), numbers, [0, 3, 4, 6])
        self.needed(("keep", (("below", 0),), 0), numbers, [0, 6])
        self.needed(("while", (("over", 4),), 0), numbers, [0, 1, 2, 3, 3])
        self.needed(("take", 2, 0), numbers, [0, 1, 2, 2])
        self.needed(("take", 0, 0), numbers, [0, 0])
        self.needed(("take", 9, 0), numbers, [0, 1, 2, 3, 4, 5, 6])
        self.needed(("skip", 3, 0), numbers, [0, 4, 5, 6])
        self.needed(("skip", 9, 0), numbers, [0, 6])
        self.needed(("group", 2, 0), numbers, [0, 3, 5, 6, 6])
        self.needed(("window", 4, 0), numbers, [0, 4, 5, 6])
        self.needed(("window", 9, 0), numbers, [0, 6])
        self.needed(("chain", 0, 0), numbers, [0, 1, 2, 3, 4, 5, 6, 6, 6, 6])
        self.needed(("pair", 0, 0), numbers, [0, 1, 2, 3, 4, 5, 6])
        self.needed(("merge", 0, 0), [1, 2, 3], [0, 1, 2, 2, 3, 3, 4])

    def test_two_sources(self):
        weave = [("source", 1), ("source", 0), ("pair", 0, 1), ("merge", 0, 1), ("chain", 0, 1)]
        lists = [[1, 5, 6], [2]]
        for out, want in (
            (2, [[0, 0], [1, 1], [1, 2], [1, 2]]),
            (3, [[0, 0], [1, 1], [2, 1], [2, 2], [3, 2], [4, 2], [4, 2]]),
            (4, [[0, 0], [0, 1], [1, 2], [2, 2], [3, 2], [4, 2], [4, 2]]),
        ):
            self.assertEqual([needs(weave, [out], [count], lists) for count in range(len(want))], want, out)


class VeryManyItemsTests(unittest.TestCase):
    """Lines that would give very many items: those behind the end of their sources ask nothing."""

    WEAVE = [("source", 0)] + [("chain", at, at) for at in range(22)] + [("source", 1)]

    def test_pulled_far_more_often_than_its_source_has_items(self):
        for count, want in ((200, 200), (201, 201), (1000002, 201), (10 ** 12, 201)):
            self.assertEqual(needs(self.WEAVE, [22, 23], [count, 1], [LONG, [5]]), [want, 1])
            self.assertEqual(needs(self.WEAVE, [23, 22], [1, count], [LONG, [5]]), [want, 1])
            self.assertEqual(needs(self.WEAVE, [22, 22], [count, count], [LONG, [5]]), [want, 0])

    def test_a_source_that_another_outlet_let_go_of(self):
        weave = [("source", 0), ("source", 1), ("chain", 0, 1)]
        self.assertEqual(needs(weave, [0, 2], [9, 9], [[5], [6, 7]]), [2, 3])
        self.assertEqual(needs(weave, [1, 2], [9, 9], [[5], [6, 7]]), [2, 3])
        self.assertEqual(needs(weave, [1, 2], [9, 1], [[5], [6, 7]]), [1, 3])


class OutletsTests(unittest.TestCase):
    def test_no_outlets(self):
        self.assertEqual(needs(WEAVE, [], [], LISTS), [0, 0])

    def test_outlets_on_one_line(self):
        weave = [("source", 0)]
        for counts, want in (([0, 0], 0), ([2, 3], 3), ([3, 2], 3), ([3, 3], 3), ([0, 9], 6), ([9, 0], 6), ([9, 9], 6)):
            self.assertEqual(needs(weave, [0, 0], counts, [[1, 2, 3, 4, 5]]), [want], counts)

    def test_outlets_that_want_one_source(self):
        weave = [("source", 0), ("skip", 3, 0), ("window", 2, 0), ("take", 1, 0)]
        for counts, want in (([1, 1, 1], 4), ([0, 3, 1], 4), ([0, 1, 1], 2), ([0, 0, 9], 1), ([2, 9, 0], 6)):
            self.assertEqual(needs(weave, [1, 2, 3], counts, [[1, 2, 3, 4, 5]]), [want], counts)

    def test_sources_that_no_line_names_or_no_outlet_wants(self):
        self.assertEqual(needs([("source", 1)], [0], [9], [[1], [2], [3, 4]]), [0, 2, 0])
        weave = [("source", 3), ("source", 1), ("take", 5, 0)]
        self.assertEqual(needs(weave, [2], [2], [[1], [2], [3], [4, 4, 4]]), [0, 0, 0, 2])
        self.assertEqual(needs(weave, [2, 1], [0, 1], [[1], [2], [3], [4, 4, 4]]), [0, 1, 0, 0])

    def test_as_a_run_pulled_so_often_in_any_order(self):
        outs = [9, 3, 5, 6]
        for counts in itertools.product((0, 1, 3, 4, 30), repeat=4):
            needed = needs(WEAVE, outs, list(counts), LISTS)
            one_by_one = [j for j, count in enumerate(counts) for _ in range(count)]
            by_turns = [j for turn in range(30) for j in range(4) if turn < counts[j]]
            for order in (one_by_one, one_by_one[::-1], by_turns):
                run = Run(WEAVE, outs, LISTS)
                for j in order:
                    run.pull(j)
                self.assertEqual([run.asked().count(k) for k in (0, 1)], needed, (counts, order))


class KeptTests(unittest.TestCase):
    def test_what_was_handed_in_stays_as_it_was(self):
        handed = (WEAVE, [9, 3, 3], [2, 0, 50], LISTS)
        weave, outs, counts, lists = copy.deepcopy(handed)
        first = needs(weave, outs, counts, lists)
        self.assertEqual((weave, outs, counts, lists), handed)
        self.assertIs(type(first), list)
        want = list(first)
        first.append(9)
        self.assertEqual(needs(weave, outs, counts, lists), want)

    def test_a_run_is_not_asked_for_it(self):
        run = Run(WEAVE, [9, 3], LISTS)
        run.pull(0)
        asked = run.asked()
        needs(WEAVE, [9, 3], [5, 5], LISTS)
        self.assertEqual(run.asked(), asked)


if __name__ == "__main__":
    unittest.main()
