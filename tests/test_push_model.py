"""Many weaves, each pushed beside the second telling of point 11 (standing.py) and beside runs by pulling."""

import copy
import unittest

from pushes import come, events
from standing import Standing
from weaves import weaves
from weavepull.plain import plain
from weavepull.pushing import Push
from weavepull.straight import straight
from weavepull.weaving import Run


def some_order(chance, lists):
    """An order in which all sources' numbers and ends come; some sources come in long stretches."""
    order = [k for k, numbers in enumerate(lists) for _ in range(len(numbers) + 1)]
    chance.shuffle(order)
    if chance.random() < 0.5:
        first = chance.randrange(len(lists))
        late = chance.randrange(len(order) + 1)
        order = sorted(order[:late], key=lambda k: k != first) + order[late:]
    return order


def asks_of(weave, out, lists):
    """How often each source is asked for the outlet's first item, for its second one, and so on to its end."""
    run = Run(weave, [out], lists)
    told = []
    item = 0
    while item is not None:
        item = run.pull(0)
        asked = run.asked()
        told.append([asked.count(k) for k in range(len(lists))])
    return told


class PushModelTests(unittest.TestCase):
    def pushes(self):
        for seed, chance, weave, outs, lists in weaves():
            yield seed, chance, weave, outs, lists, events(lists, some_order(chance, lists))

    def test_beside_coroutines_that_stand(self):
        for seed, chance, weave, outs, lists, told in self.pushes():
            push, model = Push(weave, outs, len(lists)), Standing(weave, outs, len(lists))
            self.assertEqual(push.gone(), model.gone, (seed, weave, outs))
            if chance.random() < 0.8:
                self.assertEqual(push.follows(), model.follows(), (seed, weave, outs))
            open_ones = list(range(len(outs)))
            for k, item in told:
                if open_ones and chance.random() < 0.05:
                    j = open_ones.pop(chance.randrange(len(open_ones)))
                    self.assertIsNone(push.let_go(j))
                    model.let_go(j)
                    self.assertEqual(push.gone(), model.gone, (seed, weave, outs, told))
                self.assertEqual(come(push, k, item), come(model, k, item), (seed, weave, outs, told))
                self.assertEqual(push.gone(), model.gone, (seed, weave, outs, told))
                self.assertEqual(push.follows(), [])

    def test_just_what_pulling_would_give_now(self):
        for seed, _, weave, outs, lists, told in self.pushes():
            handed = copy.deepcopy((weave, outs))
            asks = [asks_of(weave, out, lists) for out in outs]
            whole = [plain(weave, lists)[out] + [None] for out in outs]
            push = Push(weave, outs, len(lists))
            came = [0] * len(lists)
            given = [0] * len(outs)
            for k, item in [(None, None)] + told:
                if k is not None:
                    came[k] += 1
                answer = push.follows() if k is None else come(push, k, item)
                want = []
                for j in range(len(outs)):
                    now = sum(all(one <= other for one, other in zip(row, came)) for row in asks[j])
                    want.extend((j, item) for item in whole[j][given[j]:now])
                    given[j] = now
                self.assertEqual(answer, want, (seed, weave, outs, told))
            self.assertEqual(given, [len(items) for items in whole], (seed, weave, outs))
            self.assertEqual(sorted(push.gone()), list(range(len(lists))))
            self.assertEqual((weave, outs), handed)

    def test_a_weave_made_straight_is_pushed_alike(self):
        for seed, chance, weave, outs, lists, told in self.pushes():
            if not outs:
                continue
            one, other = Push(weave, outs, len(lists)), Push(*straight(weave, outs), len(lists))
            self.assertEqual((one.gone(), one.follows()), (other.gone(), other.follows()))
            open_ones = list(range(len(outs)))
            for k, item in told:
                if open_ones and chance.random() < 0.05:
                    j = open_ones.pop(chance.randrange(len(open_ones)))
                    one.let_go(j)
                    other.let_go(j)
                self.assertEqual(come(one, k, item), come(other, k, item), (seed, weave, outs, told))
                self.assertEqual(one.gone(), other.gone(), (seed, weave, outs, told))


if __name__ == "__main__":
    unittest.main()
