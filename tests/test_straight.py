"""`straight`: lines that nobody needs, lines that can be one, and runs that are just as they were (point 12)."""

import copy
import random
import unittest

from pulls import pull
from test_refusals import BAD
from weaves import some_lists, some_weave, weaves
from weavepull.errors import BadLine, NoOutlet
from weavepull.lines import looked
from weavepull.plain import plain
from weavepull.straight import straight
from weavepull.weaving import Run

SOURCE = ("source", 0)
JOINED = ("map", "keep", "while", "take", "skip")
ADD, TIMES = ("add", 1), ("times", 3)
OVER, BELOW = ("over", 2), ("below", 9)


def sides(line):
    if line[0] == "source":
        return ()
    return line[1:] if line[0] in ("chain", "pair", "merge") else line[-1:]


def is_straight(weave, outs):
    """Whether the weave is straight, as point 12 says it."""
    for at, line in enumerate(weave):
        users = outs.count(at) + sum(sides(other).count(at) for other in weave)
        if users == 0:
            return False
        if line[0] not in JOINED or weave[line[-1]][0] != line[0]:
            continue
        a = line[-1]
        if outs.count(a) + sum(sides(other).count(a) for other in weave) > 1:
            continue
        both = {"take": lambda: 0, "skip": lambda: line[1] + weave[a][1] - 9999 + 64}.get(
            line[0], lambda: len(line[1]) + len(weave[a][1]))()
        if both <= 64:
            return False
    return True


class StraightTests(unittest.TestCase):
    def made(self, weave, outs, want, want_outs):
        """The weave is made this straight one, which gives the same in the same way."""
        handed = copy.deepcopy((weave, outs))
        told = straight(weave, outs)
        self.assertEqual((weave, outs), handed)
        self.assertEqual(told, (want, want_outs))
        self.assertEqual([type(part) for part in told], [list, list])
        self.same_way(weave, outs)

    def same_way(self, weave, outs):
        """What is made of the weave is straight, and its runs are those of the weave."""
        new, new_outs = straight(weave, outs)
        self.assertTrue(is_straight(new, new_outs), (weave, outs, new))
        self.assertEqual(straight(new, new_outs), (new, new_outs))
        many = 1 + max(line[1] for line in weave if line[0] == "source")
        old_kinds, kinds = looked(weave, many), looked(new, many)
        self.assertEqual([kinds[out] for out in new_outs], [old_kinds[out] for out in outs])
        for seed in range(6):
            chance = random.Random(seed)
            lists = [[chance.randint(0, 12) for _ in range(chance.randint(0, 9))] for _ in range(many)]
            same_runs(self, chance, weave, outs, lists)


def same_runs(test, chance, weave, outs, lists):
    """Runs of the weave and of what is made of it, pull by pull and letting go by letting go."""
    new, new_outs = straight(weave, outs)
    old_run, new_run = Run(weave, outs, lists), Run(new, new_outs, lists)
    test.assertEqual(new_run.gone(), old_run.gone(), (weave, outs))
    open_ones = list(range(len(outs)))
    ended = []
    for _ in range(400):
        if len(open_ones) == len(ended):
            break
        j = chance.choice(open_ones)
        if chance.random() < 0.03:
            open_ones.remove(j)
            ended = [other for other in ended if other != j]
            old_run.let_go(j)
            new_run.let_go(j)
        else:
            told = pull(new_run, j)
            test.assertEqual(told, pull(old_run, j), (weave, outs, lists))
            ended += [j] if told[0] is None and j not in ended else []
        test.assertEqual((new_run.asked(), new_run.gone()), (old_run.asked(), old_run.gone()), (weave, outs, lists))


class UnneededTests(StraightTests):
    def test_lines_that_nobody_needs(self):
        weave = [SOURCE, ("source", 1), ("take", 2, 1), ("group", 3, 0), ("pair", 2, 3), ("window", 2, 3)]
        self.made(weave, [5], [SOURCE, ("group", 3, 0), ("window", 2, 1)], [2])
        self.made(weave, [1], [("source", 1)], [0])
        self.made(weave, [2, 0], [SOURCE, ("source", 1), ("take", 2, 1)], [2, 0])
        self.made(weave, [4, 5], weave, [4, 5])

    def test_a_line_that_only_lines_name_that_nobody_needs(self):
        weave = [SOURCE, ("source", 3), ("map", (ADD,), 0), ("map", (TIMES,), 2), ("chain", 2, 1), ("skip", 1, 4)]
        self.made(weave, [3], [SOURCE, ("map", (ADD, TIMES), 0)], [1])

    def test_straight_ones_stay(self):
        for weave in (
            [SOURCE], [SOURCE, ("take", 2, 0), ("skip", 1, 1), ("take", 1, 2)],
            [("source", 4), SOURCE, ("chain", 1, 0), ("merge", 2, 2), ("pair", 3, 0), ("window", 1, 4)],
            [SOURCE, ("fold", "add", 1, 0), ("fold", "add", 1, 1), ("window", 1, 2), ("window", 1, 3)],
            [SOURCE, ("keep", (OVER,), 0), ("while", (OVER,), 1), ("keep", (OVER,), 2), ("map", (ADD,), 3)],
        ):
            self.made(weave, [len(weave) - 1], weave, [len(weave) - 1])

    def test_groups_of_groups_of_other_words_stay(self):
        weave = [SOURCE, ("group", 2, 0), ("map", (("first",),), 1), ("group", 2, 2)]
        self.made(weave, [3], weave, [3])


class OneForTwoTests(StraightTests):
    def test_maps(self):
        weave = [SOURCE, ("map", (ADD, TIMES), 0), ("map", (("minus",),), 1)]
        self.made(weave, [2], [SOURCE, ("map", (ADD, TIMES, ("minus",)), 0)], [1])
        weave += [("map", (("both",),), 2), ("map", (("second",), ADD), 3)]
        deeds = (ADD, TIMES, ("minus",), ("both",), ("second",), ADD)
        self.made(weave, [4], [SOURCE, ("map", deeds, 0)], [1])

    def test_keeps_and_whiles(self):
        for word in ("keep", "while"):
            weave = [SOURCE, (word, (OVER,), 0), (word, (BELOW, OVER), 1), (word, (("rest", 2, 1),), 2)]
            self.made(weave, [3], [SOURCE, (word, (OVER, BELOW, OVER, ("rest", 2, 1)), 0)], [1])

    def test_takes(self):
        for one, other in ((3, 5), (5, 3), (4, 4), (0, 5), (5, 0), (9999, 9999)):
            weave = [SOURCE, ("take", one, 0), ("take", other, 1)]
            self.made(weave, [2], [SOURCE, ("take", min(one, other), 0)], [1])
        weave = [SOURCE, ("take", 5, 0), ("take", 2, 1), ("take", 3, 2)]
        self.made(weave, [3], [SOURCE, ("take", 2, 0)], [1])

    def test_skips(self):
        for one, other in ((3, 5), (0, 0), (0, 4), (4, 0), (9999, 0), (4999, 5000), (1, 9998)):
            weave = [SOURCE, ("skip", one, 0), ("skip", other, 1)]
            self.made(weave, [2], [SOURCE, ("skip", one + other, 0)], [1])

    def test_skips_beyond_9999_stay(self):
        for one, other in ((9999, 1), (5000, 5000), (1, 9999), (9999, 9999)):
            weave = [SOURCE, ("skip", one, 0), ("skip", other, 1)]
            self.made(weave, [2], weave, [2])
        weave = [SOURCE, ("skip", 6000, 0), ("skip", 5000, 1), ("skip", 4000, 2)]
        self.made(weave, [3], [SOURCE, ("skip", 6000, 0), ("skip", 9000, 1)], [2])

    def test_up_to_64_deeds_or_tests(self):
        for word, part in (("map", ADD), ("keep", OVER), ("while", OVER)):
            for one, other in ((1, 63), (63, 1), (32, 32)):
                weave = [SOURCE, (word, (part,) * one, 0), (word, (part,) * other, 1)]
                self.made(weave, [2], [SOURCE, (word, (part,) * 64, 0)], [1])
            for one, other in ((1, 64), (64, 1), (33, 32), (64, 64)):
                weave = [SOURCE, (word, (part,) * one, 0), (word, (part,) * other, 1)]
                self.made(weave, [2], weave, [2])

    def test_some_of_three_beyond_64(self):
        weave = [SOURCE, ("map", (ADD,) * 40, 0), ("map", (TIMES,) * 40, 1), ("map", (ADD,) * 24, 2)]
        self.made(weave, [3], [SOURCE, ("map", (ADD,) * 40, 0), ("map", (TIMES,) * 40 + (ADD,) * 24, 1)], [2])
        weave = [SOURCE] + [("keep", (OVER,) * 30, at) for at in range(5)]
        new, outs = straight(weave, [5])
        self.assertEqual([len(line[1]) for line in new[1:]], [60, 60, 30])
        self.same_way(weave, [5])

    def test_other_words_between(self):
        weave = [SOURCE, ("map", (ADD,), 0), ("keep", (OVER,), 1), ("map", (ADD,), 2), ("map", (ADD,), 3)]
        self.made(weave, [4], weave[:3] + [("map", (ADD, ADD), 2)], [3])
        weave = [SOURCE, ("take", 3, 0), ("skip", 1, 1), ("take", 4, 2), ("skip", 1, 3), ("skip", 1, 4)]
        self.made(weave, [5], weave[:4] + [("skip", 2, 3)], [4])

    def test_keep_and_while_are_not_one(self):
        weave = [SOURCE, ("keep", (OVER,), 0), ("while", (BELOW,), 1), ("keep", (OVER,), 2)]
        self.made(weave, [3], weave, [3])


class NamedByOthersTests(StraightTests):
    def test_one_that_an_outlet_pulls_stays(self):
        lines = {
            "map": [("map", (ADD,), 0), ("map", (TIMES,), 1)], "keep": [("keep", (OVER,), 0), ("keep", (BELOW,), 1)],
            "while": [("while", (OVER,), 0), ("while", (BELOW,), 1)], "take": [("take", 3, 0), ("take", 2, 1)],
            "skip": [("skip", 3, 0), ("skip", 2, 1)],
        }
        for two in lines.values():
            weave = [SOURCE] + two
            for outs in ([1, 2], [2, 1], [2, 1, 1], [0, 2, 1, 2]):
                self.made(weave, outs, weave, outs)
            self.assertEqual(len(straight(weave, [2])[0]), 2)
            self.assertEqual(len(straight(weave, [2, 0, 2])[0]), 2)

    def test_one_that_another_line_names_stays(self):
        weave = [SOURCE, ("map", (ADD,), 0), ("map", (TIMES,), 1), ("window", 2, 1), ("pair", 2, 3)]
        self.made(weave, [4], weave, [4])
        self.made(weave, [2], [SOURCE, ("map", (ADD, TIMES), 0)], [1])
        weave = [SOURCE, ("take", 9, 0), ("take", 3, 1), ("take", 2, 1), ("merge", 2, 3)]
        self.made(weave, [4], weave, [4])

    def test_one_between_that_somebody_else_names(self):
        weave = [SOURCE] + [("skip", 1, at) for at in range(5)] + [("pair", 5, 3)]
        self.made(weave, [6], [SOURCE, ("skip", 3, 0), ("skip", 2, 1), ("pair", 2, 1)], [3])
        self.made(weave, [5, 3], [SOURCE, ("skip", 3, 0), ("skip", 2, 1)], [2, 1])

    def test_one_that_is_named_twice_by_one_line(self):
        weave = [SOURCE, ("keep", (OVER,), 0), ("keep", (BELOW,), 1), ("chain", 2, 2)]
        self.made(weave, [3], [SOURCE, ("keep", (OVER, BELOW), 0), ("chain", 1, 1)], [2])

    def test_both_sides_of_a_line(self):
        weave = [
            SOURCE, ("take", 5, 0), ("take", 3, 1), ("skip", 1, 0), ("skip", 2, 3), ("chain", 4, 2), ("map", (ADD,), 5),
        ]
        want = [SOURCE, ("take", 3, 0), ("skip", 3, 0), ("chain", 2, 1), ("map", (ADD,), 3)]
        self.made(weave, [6], want, [4])

    def test_outlets_in_the_old_ones_order(self):
        weave = [SOURCE, ("source", 1), ("map", (ADD,), 1), ("map", (ADD,), 2), ("fold", "most", 0, 3)]
        want = [SOURCE, ("source", 1), ("map", (ADD, ADD), 1), ("fold", "most", 0, 2)]
        self.made(weave, [4, 0, 3, 4, 1, 0], want, [3, 0, 2, 3, 1, 0])


class ManyWeavesTests(StraightTests):
    """Weaves by chance, most of them with many lines behind one another that can be one."""

    def some_rows(self, chance, lists):
        weave = [("source", k) for k in range(len(lists))]
        while len(weave) < 24:
            word, a = chance.choice(JOINED), len(weave) - 1 if chance.random() < 0.8 else chance.randrange(len(weave))
            for _ in range(min(chance.randint(1, 4), 24 - len(weave))):
                number = chance.choice((0, 1, 1, 2, 5, 9, 5000)) if word == "take" else chance.choice((0, 0, 1, 1, 2))
                part = chance.choice((ADD, TIMES) if word == "map" else (OVER, BELOW, ("rest", 2, 1), ("over", 0)))
                many = chance.choice((1, 1, 1, 2, 31, 33))
                weave.append((word, number if word in ("take", "skip") else (part,) * many, a))
                a = len(weave) - 1
            if len(weave) < 24 and chance.random() < 0.4:
                weave.append((chance.choice(("chain", "merge")), a, chance.randrange(len(weave))))
        return weave

    def one_weave(self, seed):
        chance = random.Random(seed)
        lists = some_lists(chance)
        weave = self.some_rows(chance, lists) if seed % 3 else some_weave(chance, lists)
        last = len(weave) - 1
        outs = [chance.choice((last, chance.randint(0, last))) for _ in range(chance.randint(1, 4))]
        return chance, weave, outs, lists

    def test_straight_and_just_the_same(self):
        shorter = 0
        for seed in range(600):
            chance, weave, outs, lists = self.one_weave(seed)
            handed = copy.deepcopy((weave, outs))
            new, new_outs = straight(weave, outs)
            shorter += len(new) < len(weave)
            self.assertEqual((weave, outs), handed)
            self.assertTrue(is_straight(new, new_outs), (seed, weave, outs))
            self.assertEqual(straight(new, new_outs), (new, new_outs), seed)
            old_kinds, kinds = looked(weave, len(lists)), looked(new, len(lists))
            self.assertEqual([kinds[out] for out in new_outs], [old_kinds[out] for out in outs], seed)
            if all(len(items) <= 2000 for items in plain(weave, lists)):
                same_runs(self, chance, weave, outs, lists)
        self.assertGreater(shorter, 400)

    def test_whole_lines(self):
        for seed, _, weave, outs, lists in weaves():
            if outs:
                new, new_outs = straight(weave, outs)
                told, new_told = plain(weave, lists), plain(new, lists)
                self.assertEqual([new_told[out] for out in new_outs], [told[out] for out in outs], seed)
                self.assertLessEqual(len(new), len(weave))


class RefusedTests(unittest.TestCase):
    def test_weaves_that_cannot_be(self):
        for weave, at, why in BAD:
            if weave == [("source", 1)]:
                # How many sources there are is not told: any number from 0 on is that of one.
                continue
            for outs in ([0], [99], [-1]):
                with self.assertRaises(BadLine) as caught:
                    straight(weave, outs)
                self.assertEqual((caught.exception.at, caught.exception.why), (at, why))

    def test_a_source_of_any_number(self):
        self.assertEqual(straight([("source", 77), ("source", 5)], [1, 0]), ([("source", 77), ("source", 5)], [1, 0]))
        for weave in ([("source", -1)], [("source", 3), ("source", 3)]):
            with self.assertRaises(BadLine) as caught:
                straight(weave, [0])
            self.assertEqual((caught.exception.at, caught.exception.why), (len(weave) - 1, "place"))

    def test_a_number_among_the_outlets_that_is_no_line_s(self):
        for outs in ([1], [-1], [0, 2]):
            with self.assertRaises(NoOutlet):
                straight([SOURCE], outs)


class KeptTests(unittest.TestCase):
    def test_lists_that_were_given_back_may_be_changed(self):
        weave, outs = [SOURCE, ("take", 2, 0)], [1, 0]
        new, new_outs = straight(weave, outs)
        self.assertEqual((new, new_outs), (weave, outs))
        new.append(("take", 1, 0))
        new[0] = ("source", 1)
        new_outs.clear()
        self.assertEqual((weave, outs), ([SOURCE, ("take", 2, 0)], [1, 0]))
        self.assertEqual(straight(weave, outs), (weave, outs))


if __name__ == "__main__":
    unittest.main()
