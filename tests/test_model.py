"""Many weaves, each run beside the model of points 5 and 7 to 10 (model.py)."""

import copy
import random
import unittest

from model import Model, whole
from weavepull.errors import BadLine
from weavepull.lines import looked
from weavepull.needs import needs
from weavepull.plain import plain
from weavepull.weaving import Run

WEAVES = 600


def some_deeds(chance):
    deeds = (("add", 7), ("times", 5), ("minus",), ("first",), ("second",), ("both",), ("sum",), ("many",))
    return tuple(chance.choice(deeds) for _ in range(chance.randint(1, 3)))


def some_tests(chance):
    tests = (("below", 12), ("over", 2), ("rest", 2, 1), ("rest", 3, 0), ("below", 1000002), ("over", 0))
    return tuple(chance.choice(tests) for _ in range(chance.randint(1, 2)))


def some_line(chance, at, many):
    a, b = chance.randrange(at) if at else 0, chance.randrange(at) if at else 0
    word = chance.choice(
        ("source",) * 3 + ("map", "keep", "while", "take", "skip", "group", "window", "fold", "chain", "pair", "merge"))
    return {
        "source": lambda: ("source", chance.randrange(many)),
        "map": lambda: ("map", some_deeds(chance), a),
        "keep": lambda: ("keep", some_tests(chance), a),
        "while": lambda: ("while", some_tests(chance), a),
        "take": lambda: ("take", chance.randint(0, 8), a),
        "skip": lambda: ("skip", chance.randint(0, 5), a),
        "group": lambda: ("group", chance.randint(1, 4), a),
        "window": lambda: ("window", chance.randint(1, 4), a),
        "fold": lambda: ("fold", chance.choice(("add", "times", "least", "most")), chance.randint(0, 20), a),
        "chain": lambda: ("chain", a, b), "pair": lambda: ("pair", a, b), "merge": lambda: ("merge", a, b),
    }[word]()


def depth(kind):
    return 1 if kind == "number" else 1 + max(depth(part) for part in kind[1:])


def some_weave(chance, lists):
    """A weave that can be, not too deep and not too long."""
    weave, wanted = [], chance.randint(1, 12)
    while len(weave) < wanted:
        longer = weave + [some_line(chance, len(weave), len(lists))]
        try:
            if depth(looked(longer, len(lists))[-1]) <= 8 and len(whole(longer, lists)[-1]) <= 150:
                weave = longer
        except BadLine:
            pass
    return weave


def some_lists(chance):
    most = chance.choice((6, 20, 1000002))
    lists = [[chance.randint(0, most) for _ in range(chance.randint(0, 12))] for _ in range(chance.randint(1, 4))]
    return [sorted(row) if chance.random() < 0.3 else row for row in lists]


def seen(run):
    """What was asked and let go of, of a model or a run."""
    return (run.asked(), run.gone()) if isinstance(run, Run) else (run.asked, run.gone)


class ModelTests(unittest.TestCase):
    def weaves(self):
        for seed in range(WEAVES):
            chance = random.Random(seed)
            lists = some_lists(chance)
            weave = some_weave(chance, lists)
            outs = [chance.randrange(len(weave)) for _ in range(chance.randint(0, 4))]
            yield seed, chance, weave, outs, lists

    def test_whole_lines(self):
        for seed, _, weave, _, lists in self.weaves():
            handed = copy.deepcopy((weave, lists))
            self.assertEqual(plain(weave, lists), whole(weave, lists), (seed, weave))
            self.assertEqual((weave, lists), handed)

    def test_runs_pulled_and_let_go_of(self):
        for seed, chance, weave, outs, lists in self.weaves():
            run, model = Run(weave, outs, lists), Model(weave, outs, lists)
            self.assertEqual(seen(run), seen(model), (seed, weave, outs))
            open_ones = list(range(len(outs)))
            for _ in range(150):
                if not open_ones:
                    break
                j = chance.choice(open_ones)
                if chance.random() < 0.02:
                    open_ones.remove(j)
                    self.assertIsNone(run.let_go(j))
                    model.let_go(j)
                else:
                    self.assertEqual(run.pull(j), model.pull(j), (seed, weave, outs))
                self.assertEqual(seen(run), seen(model), (seed, weave, outs))

    def test_runs_pulled_to_their_ends(self):
        for seed, chance, weave, outs, lists in self.weaves():
            run, told = Run(weave, outs, lists), plain(weave, lists)
            given = [[] for _ in outs]
            open_ones = list(range(len(outs)))
            while open_ones:
                j = chance.choice(open_ones)
                item = run.pull(j)
                if item is None:
                    open_ones.remove(j)
                else:
                    given[j].append(item)
            self.assertEqual(given, [told[out] for out in outs], (seed, weave, outs))
            self.assertEqual(sorted(run.gone()), list(range(len(lists))), (seed, weave, outs))
            asked = run.asked()
            for k, row in enumerate(lists):
                self.assertLessEqual(asked.count(k), len(row) + 1)
            for j in range(len(outs)):
                self.assertIsNone(run.pull(j))
            self.assertEqual(run.asked(), asked)

    def test_needs(self):
        for seed, chance, weave, outs, lists in self.weaves():
            counts = [chance.choice((0, 1, 2, 3, 5, 9, 40, 10000)) for _ in outs]
            handed = copy.deepcopy((weave, outs, counts, lists))
            needed = needs(weave, outs, counts, lists)
            self.assertEqual((weave, outs, counts, lists), handed)
            order = [j for j, count in enumerate(counts) for _ in range(min(count, 200))]
            chance.shuffle(order)
            for run in (Run(weave, outs, lists), Model(weave, outs, lists)):
                for j in order:
                    run.pull(j)
                asked = seen(run)[0]
                self.assertEqual(needed, [asked.count(k) for k in range(len(lists))], (seed, weave, outs, counts))


class OfTheModelTests(unittest.TestCase):
    """The weaves that are made have in them what the comparison is for."""

    def test_each_word_is_there_often(self):
        words = {}
        for _, _, weave, _, _ in ModelTests.weaves(self):
            for line in weave:
                words[line[0]] = words.get(line[0], 0) + 1
        self.assertEqual(len(words), 12)
        self.assertGreater(min(words.values()), 50)


if __name__ == "__main__":
    unittest.main()
