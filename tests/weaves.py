"""Weaves made by chance, for the comparisons with a second telling."""

import random

from model import whole
from weavepull.errors import BadLine
from weavepull.lines import looked

WEAVES = 600


def some_deeds(chance):
    deeds = (("add", 7), ("times", 5), ("minus",), ("first",), ("second",), ("both",), ("sum",), ("many",))
    return tuple(chance.choice(deeds) for _ in range(chance.randint(1, 3)))


def some_tests(chance):
    tests = (("below", 12), ("over", 2), ("rest", 2, 1), ("rest", 3, 0), ("below", 1000002), ("over", 0))
    return tuple(chance.choice(tests) for _ in range(chance.randint(1, 2)))


def some_line(chance, at, many):
    a, b = chance.randrange(at) if at else 0, chance.randrange(at) if at else 0
    word = chance.choice(
        ("source",) * 3 + ("map", "keep", "while", "take", "skip", "group", "window", "fold", "chain", "pair", "merge"))
    return {
        "source": lambda: ("source", chance.randrange(many)),
        "map": lambda: ("map", some_deeds(chance), a),
        "keep": lambda: ("keep", some_tests(chance), a),
        "while": lambda: ("while", some_tests(chance), a),
        "take": lambda: ("take", chance.randint(0, 8), a),
        "skip": lambda: ("skip", chance.randint(0, 5), a),
        "group": lambda: ("group", chance.randint(1, 4), a),
        "window": lambda: ("window", chance.randint(1, 4), a),
        "fold": lambda: ("fold", chance.choice(("add", "times", "least", "most")), chance.randint(0, 20), a),
        "chain": lambda: ("chain", a, b), "pair": lambda: ("pair", a, b), "merge": lambda: ("merge", a, b),
    }[word]()


def depth(kind):
    return 1 if kind == "number" else 1 + max(depth(part) for part in kind[1:])


def some_weave(chance, lists):
    """A weave that can be, not too deep and not too long."""
    weave, wanted = [], chance.randint(1, 12)
    while len(weave) < wanted:
        longer = weave + [some_line(chance, len(weave), len(lists))]
        try:
            if depth(looked(longer, len(lists))[-1]) <= 8 and len(whole(longer, lists)[-1]) <= 150:
                weave = longer
        except BadLine:
            pass
    return weave


def some_lists(chance):
    most = chance.choice((6, 20, 1000002))
    lists = [[chance.randint(0, most) for _ in range(chance.randint(0, 12))] for _ in range(chance.randint(1, 4))]
    return [sorted(row) if chance.random() < 0.3 else row for row in lists]


def weaves():
    """Weaves with outlets and lists, and a chance of their own to go on with."""
    for seed in range(WEAVES):
        chance = random.Random(seed)
        lists = some_lists(chance)
        weave = some_weave(chance, lists)
        outs = [chance.randrange(len(weave)) for _ in range(chance.randint(0, 4))]
        yield seed, chance, weave, outs, lists
