"""What `plain`, `needs` and `Run` refuse: BadLine ahead of all else (point 6), NoOutlet and LetGo."""

import copy
import unittest

from pulls import all_of
from weavepull.errors import BadLine, LetGo, NoOutlet
from weavepull.needs import needs
from weavepull.plain import plain
from weavepull.weaving import Run

SOURCE = ("source", 0)
PAIRS = ("map", (("both",),), 0)

# Weaves with a list for one source, the number of the line and the first word of what is wrong.
BAD = [
    ([], 0, "many"),
    ([SOURCE] + [("take", 1, 0)] * 24, 24, "many"),
    ([("source", 1)] * 25, 24, "many"),
    ([("source", 1)], 0, "place"),
    ([("source", -1)], 0, "place"),
    ([SOURCE, SOURCE], 1, "place"),
    ([SOURCE, ("take", 1, 1)], 1, "place"),
    ([SOURCE, ("take", 1, -1)], 1, "place"),
    ([SOURCE, ("chain", 0, 2), ("take", 1, 0)], 1, "place"),
    ([SOURCE, ("take", 10000, 0)], 1, "number"),
    ([SOURCE, ("skip", -1, 0)], 1, "number"),
    ([SOURCE, ("group", 0, 0)], 1, "number"),
    ([SOURCE, ("window", 10, 0)], 1, "number"),
    ([SOURCE, ("fold", "add", 1000003, 0)], 1, "number"),
    ([SOURCE, ("map", (), 0)], 1, "number"),
    ([SOURCE, ("keep", (("rest", 2, 2),), 0)], 1, "number"),
    ([SOURCE, ("while", (("over", 1),) * 65, 0)], 1, "number"),
    ([SOURCE, PAIRS, ("group", 2, 1)], 2, "kind"),
    ([SOURCE, PAIRS, ("merge", 0, 1)], 2, "kind"),
    ([SOURCE, PAIRS, ("chain", 0, 1)], 2, "kind"),
    ([SOURCE, ("map", (("sum",),), 0)], 1, "kind"),
    ([SOURCE, PAIRS, ("keep", (("over", 1),), 1), ("take", -1, 0)], 2, "kind"),
]


class BadLineTests(unittest.TestCase):
    def refused(self, called, at, why):
        with self.assertRaises(BadLine) as caught:
            called()
        self.assertEqual((caught.exception.at, caught.exception.why), (at, why))

    def test_plain(self):
        for weave, at, why in BAD:
            self.refused(lambda: plain(weave, [[1, 2]]), at, why)

    def test_needs(self):
        for weave, at, why in BAD:
            self.refused(lambda: needs(weave, [0], [1], [[1, 2]]), at, why)

    def test_run(self):
        for weave, at, why in BAD:
            self.refused(lambda: Run(weave, [0], [[1, 2]]), at, why)

    def test_ahead_of_all_else(self):
        for weave, at, why in BAD:
            for outs in ([], [-1], [99], [0, 99]):
                self.refused(lambda: Run(weave, outs, [[1, 2]]), at, why)
                self.refused(lambda: needs(weave, outs, [0] * len(outs), [[1, 2]]), at, why)

    def test_a_source_is_one_that_has_a_list(self):
        weave = [("source", 2)]
        for lists in ([], [[1]], [[1], [2]]):
            self.refused(lambda: plain(weave, lists), 0, "place")
            self.refused(lambda: needs(weave, [0], [1], lists), 0, "place")
            self.refused(lambda: Run(weave, [0], lists), 0, "place")
        for lists in ([[], [], []], [[1], [2], [3], [4]]):
            self.assertEqual(plain(weave, lists), [lists[2]])
            self.assertEqual(all_of(Run(weave, [0], lists), 0), lists[2])
            self.assertEqual(needs(weave, [0], [1], lists)[2], 1)

    def test_what_was_handed_in_stays_as_it_was(self):
        for weave, _, _ in BAD:
            handed = copy.deepcopy(weave)
            lists = [[1, 2]]
            for called in (lambda: plain(handed, lists), lambda: Run(handed, [0], lists)):
                with self.assertRaises(BadLine):
                    called()
            self.assertEqual((handed, lists), (weave, [[1, 2]]))


class NoOutletTests(unittest.TestCase):
    WEAVE = [SOURCE, ("take", 2, 0)]

    def test_a_run_with_a_number_that_is_no_line_s(self):
        for outs in ([2], [-1], [-2], [1000], [0, 2], [2, 0], [0, 1, -1]):
            with self.assertRaises(NoOutlet, msg=outs):
                Run(self.WEAVE, outs, [[1, 2]])
        self.assertEqual(Run(self.WEAVE, [0, 1, 1], [[1, 2]]).gone(), [])

    def test_no_such_outlet(self):
        for outs in ([], [1], [1, 0], [1, 1, 1]):
            run = Run(self.WEAVE, outs, [[1, 2], [3]])
            gone = run.gone()
            for j in (-1, -len(outs), len(outs), len(outs) + 1, 1000, -1000):
                if 0 <= j < len(outs):
                    continue
                for called in (run.pull, run.let_go):
                    with self.assertRaises(NoOutlet, msg=(outs, j)):
                        called(j)
            self.assertEqual((run.asked(), run.gone()), ([], gone))

    def test_what_is_refused_changes_nothing(self):
        run = Run(self.WEAVE, [1, 0], [[1, 2]])
        self.assertEqual(run.pull(0), 1)
        for j in (-1, 2):
            for called in (run.pull, run.let_go):
                with self.assertRaises(NoOutlet):
                    called(j)
        self.assertEqual((run.asked(), run.gone()), ([0], []))
        self.assertEqual((all_of(run, 0), all_of(run, 1)), ([2], [1, 2]))
        self.assertEqual((run.asked(), run.gone()), ([0, 0, 0], [0]))


class LetGoTests(unittest.TestCase):
    def refused(self, run, j):
        before = run.asked(), run.gone()
        for called in (run.pull, run.let_go, run.let_go, run.pull):
            with self.assertRaises(LetGo):
                called(j)
        self.assertEqual((run.asked(), run.gone()), before)

    def test_one_that_was_let_go(self):
        run = Run([SOURCE, ("take", 2, 0)], [1, 0, 1], [[1, 2, 3]])
        self.assertEqual(run.pull(0), 1)
        run.let_go(0)
        self.refused(run, 0)
        self.assertEqual(run.gone(), [])
        run.let_go(2)
        self.refused(run, 2)
        self.refused(run, 0)
        self.assertEqual(all_of(run, 1), [1, 2, 3])
        self.assertEqual((run.asked(), run.gone()), ([0] * 4, [0]))

    def test_one_that_was_let_go_ahead_of_the_first_pull(self):
        run = Run([SOURCE], [0, 0], [[1]])
        run.let_go(1)
        self.refused(run, 1)
        run.let_go(0)
        self.refused(run, 0)
        self.assertEqual((run.asked(), run.gone()), ([], [0]))

    def test_one_that_was_let_go_at_its_end(self):
        run = Run([SOURCE], [0], [[1]])
        self.assertEqual(all_of(run, 0), [1])
        self.assertIsNone(run.pull(0))
        run.let_go(0)
        self.refused(run, 0)

    def test_one_at_its_end_was_not_let_go(self):
        run = Run([SOURCE], [0, 0], [[1]])
        self.assertEqual(all_of(run, 0), [1])
        self.assertEqual([run.pull(0) for _ in range(3)], [None] * 3)

    def test_no_such_outlet_behind_one_that_was_let_go(self):
        run = Run([SOURCE], [0], [[1]])
        run.let_go(0)
        for j in (-1, 1):
            for called in (run.pull, run.let_go):
                with self.assertRaises(NoOutlet):
                    called(j)


if __name__ == "__main__":
    unittest.main()
