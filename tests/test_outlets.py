"""`Run` with two and more outlets: each has a place of its own, and sources are asked once for each item
(points 7 and 8)."""

import itertools
import unittest

from pulls import all_of, asks, pull
from weavepull.plain import plain
from weavepull.weaving import Run

NUMBERS = [4, 7, 2, 2, 9, 5]

# All words, lines that name one line twice, and lines that name each other.
WEAVE = [
    ("source", 0), ("source", 1), ("keep", (("over", 2),), 0), ("while", (("below", 9),), 0), ("take", 3, 1),
    ("skip", 2, 0), ("group", 3, 1), ("window", 2, 2), ("fold", "add", 5, 0), ("chain", 2, 4), ("pair", 0, 5),
    ("merge", 3, 1), ("map", (("sum",),), 7), ("merge", 12, 9), ("pair", 13, 13), ("chain", 11, 11),
]
LISTS = [[4, 7, 2, 2, 9, 5], [1, 4, 3, 8, 8]]


class OneLineTests(unittest.TestCase):
    def test_one_after_the_other(self):
        run = Run([("source", 0)], [0, 0], [NUMBERS])
        self.assertEqual(all_of(run, 0), NUMBERS)
        self.assertEqual(run.asked(), [0] * 7)
        self.assertEqual(all_of(run, 1), NUMBERS)
        self.assertEqual(run.asked(), [0] * 7)

    def test_by_turns(self):
        run = Run([("source", 0)], [0, 0], [[5, 6]])
        self.assertEqual([pull(run, j)[:2] for j in (0, 1, 1, 0, 0, 1, 1, 0)], [
            (5, [0]), (5, []), (6, [0]), (6, []), (None, [0]), (None, []), (None, []), (None, []),
        ])

    def test_whoever_wants_it_first_makes_it(self):
        for j in (0, 1, 2):
            run = Run([("source", 0), ("skip", 2, 0)], [1, 1, 1], [NUMBERS])
            self.assertEqual(pull(run, j)[:2], (2, [0] * 3))
            for other in {0, 1, 2} - {j}:
                self.assertEqual(pull(run, other)[:2], (2, []))

    def test_an_end_is_found_once(self):
        run = Run([("source", 0), ("keep", (("below", 0),), 0)], [1, 1, 0], [NUMBERS])
        self.assertEqual(pull(run, 1)[:2], (None, [0] * 7))
        self.assertEqual(pull(run, 0)[:2], (None, []))
        self.assertEqual(all_of(run, 2), NUMBERS)
        self.assertEqual(run.asked(), [0] * 7)


class LinesThatNameEachOtherTests(unittest.TestCase):
    def test_a_line_and_one_that_names_it(self):
        run = Run([("source", 0), ("window", 2, 0)], [0, 1], [[1, 2, 3]])
        self.assertEqual(asks(run, 1, 1), [((1, 2), [0, 0])])
        self.assertEqual(asks(run, 0, 3), [(1, []), (2, []), (3, [0])])
        self.assertEqual(asks(run, 1, 2), [((2, 3), []), (None, [0])])
        self.assertEqual(asks(run, 0, 1), [(None, [])])

    def test_a_line_goes_on_behind_the_end_of_one_that_names_it(self):
        run = Run([("source", 0), ("take", 1, 0), ("while", (("below", 6),), 0)], [1, 2, 0], [[5, 6, 7]])
        self.assertEqual(asks(run, 0, 2), [(5, [0]), (None, [])])
        self.assertEqual(asks(run, 1, 2), [(5, []), (None, [0])])
        self.assertEqual(asks(run, 2, 4), [(5, []), (6, []), (7, [0]), (None, [0])])

    def test_two_lines_far_apart_on_one(self):
        run = Run([("source", 0), ("skip", 3, 0), ("pair", 0, 1)], [2, 1], [[1, 2, 3, 4, 5]])
        self.assertEqual(asks(run, 0, 1), [((1, 4), [0] * 4)])
        self.assertEqual(asks(run, 1, 2), [(4, []), (5, [0])])
        self.assertEqual(asks(run, 0, 2), [((2, 5), []), (None, [0])])
        self.assertEqual(asks(run, 1, 1), [(None, [])])

    def test_sources_of_two_lines(self):
        weave = [("source", 0), ("source", 1), ("merge", 0, 1), ("chain", 1, 0)]
        run = Run(weave, [2, 3], [[1, 5], [2]])
        self.assertEqual(asks(run, 1, 1), [(2, [1])])
        self.assertEqual(asks(run, 0, 2), [(1, [0]), (2, [0])])
        self.assertEqual(asks(run, 1, 4), [(1, [1]), (5, []), (None, [0]), (None, [])])
        self.assertEqual(asks(run, 0, 2), [(5, []), (None, [])])


class UnlikeOrdersTests(unittest.TestCase):
    def run_in(self, order):
        """Pulls the outlets in this order, and behind it the rest; what each gave, and what was asked."""
        run = Run(WEAVE, [15, 10, 14, 6, 8, 10, 0], LISTS)
        given = [[] for _ in range(7)]
        for j in order:
            item = run.pull(j)
            if item is not None:
                given[j].append(item)
        for j in range(7):
            given[j].extend(all_of(run, j))
        return given, run.asked(), run.gone()

    def test_each_outlet_gets_all_items_of_its_line(self):
        told = plain(WEAVE, LISTS)
        want = [told[at] for at in (15, 10, 14, 6, 8, 10, 0)]
        orders = [order * 12 for order in itertools.islice(itertools.permutations(range(7)), 0, 5040, 97)]
        orders += [[j] * 30 for j in range(7)] + [[0, 0, 5, 1, 5] * 4, [6] * 3 + [2] * 5, []]
        for order in orders:
            given, asked, gone = self.run_in(order)
            self.assertEqual(given, want, order)
            self.assertEqual((asked.count(0), asked.count(1), len(asked)), (7, 6, 13), order)
            self.assertEqual(sorted(gone), [0, 1], order)


if __name__ == "__main__":
    unittest.main()
