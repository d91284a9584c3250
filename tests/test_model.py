"""Many weaves, each run beside the model of points 5 and 7 to 10 (model.py)."""

import copy
import unittest

from model import Model, whole
from weaves import weaves
from weavepull.needs import needs
from weavepull.plain import plain
from weavepull.weaving import Run


def seen(run):
    """What was asked and let go of, of a model or a run."""
    return (run.asked(), run.gone()) if isinstance(run, Run) else (run.asked, run.gone)


class ModelTests(unittest.TestCase):
    def test_whole_lines(self):
        for seed, _, weave, _, lists in weaves():
            handed = copy.deepcopy((weave, lists))
            self.assertEqual(plain(weave, lists), whole(weave, lists), (seed, weave))
            self.assertEqual((weave, lists), handed)

    def test_runs_pulled_and_let_go_of(self):
        for seed, chance, weave, outs, lists in weaves():
            run, model = Run(weave, outs, lists), Model(weave, outs, lists)
            self.assertEqual(seen(run), seen(model), (seed, weave, outs))
            open_ones = list(range(len(outs)))
            for _ in range(150):
                if not open_ones:
                    break
                j = chance.choice(open_ones)
                if chance.random() < 0.02:
                    open_ones.remove(j)
                    self.assertIsNone(run.let_go(j))
                    model.let_go(j)
                else:
                    self.assertEqual(run.pull(j), model.pull(j), (seed, weave, outs))
                self.assertEqual(seen(run), seen(model), (seed, weave, outs))

    def test_runs_pulled_to_their_ends(self):
        for seed, chance, weave, outs, lists in weaves():
            run, told = Run(weave, outs, lists), plain(weave, lists)
            given = [[] for _ in outs]
            open_ones = list(range(len(outs)))
            while open_ones:
                j = chance.choice(open_ones)
                item = run.pull(j)
                if item is None:
                    open_ones.remove(j)
                else:
                    given[j].append(item)
            self.assertEqual(given, [told[out] for out in outs], (seed, weave, outs))
            self.assertEqual(sorted(run.gone()), list(range(len(lists))), (seed, weave, outs))
            asked = run.asked()
            for k, row in enumerate(lists):
                self.assertLessEqual(asked.count(k), len(row) + 1)
            for j in range(len(outs)):
                self.assertIsNone(run.pull(j))
            self.assertEqual(run.asked(), asked)

    def test_needs(self):
        for seed, chance, weave, outs, lists in weaves():
            counts = [chance.choice((0, 1, 2, 3, 5, 9, 40, 10000)) for _ in outs]
            handed = copy.deepcopy((weave, outs, counts, lists))
            needed = needs(weave, outs, counts, lists)
            self.assertEqual((weave, outs, counts, lists), handed)
            order = [j for j, count in enumerate(counts) for _ in range(min(count, 200))]
            chance.shuffle(order)
            for run in (Run(weave, outs, lists), Model(weave, outs, lists)):
                for j in order:
                    run.pull(j)
                asked = seen(run)[0]
                self.assertEqual(needed, [asked.count(k) for k in range(len(lists))], (seed, weave, outs, counts))


class OfTheModelTests(unittest.TestCase):
    """The weaves that are made have in them what the comparison is for."""

    def test_each_word_is_there_often(self):
        words = {}
        for _, _, weave, _, _ in weaves():
            for line in weave:
                words[line[0]] = words.get(line[0], 0) + 1
        self.assertEqual(len(words), 12)
        self.assertGreater(min(words.values()), 50)


if __name__ == "__main__":
    unittest.main()
