"""A second telling of points 5 and 7 to 9 for the tests: what a line gives, and whom it pulls for each item, is told
off whole lists here, and a run only follows that."""

import heapq
import itertools

REST = 1000003


def deed_done(deed, item):
    word, numbers = deed[0], deed[1:]
    return {
        "add": lambda: (item + numbers[0]) % REST,
        "times": lambda: item * numbers[0] % REST,
        "minus": lambda: (REST - item) % REST,
        "first": lambda: item[0],
        "second": lambda: item[1],
        "both": lambda: (item, item),
        "sum": lambda: sum(item) % REST,
        "many": lambda: len(item),
    }[word]()


def all_met(tests, number):
    for test in tests:
        met = {
            "below": lambda: number < test[1],
            "over": lambda: number > test[1],
            "rest": lambda: number % test[1] == test[2],
        }[test[0]]()
        if not met:
            return False
    return True


def fold_once(word, one, other):
    return {
        "add": (one + other) % REST, "times": one * other % REST, "least": min(one, other), "most": max(one, other),
    }[word]


def done_all(deeds, item):
    for deed in deeds:
        item = deed_done(deed, item)
    return item


def line_given(line, a, b):
    """What a line gives of A's and B's items."""
    word = line[0]
    if word == "map":
        return [done_all(line[1], item) for item in a]
    if word == "keep":
        return list(filter(lambda number: all_met(line[1], number), a))
    if word == "while":
        return list(itertools.takewhile(lambda number: all_met(line[1], number), a))
    if word in ("take", "skip"):
        return a[:line[1]] if word == "take" else a[line[1]:]
    if word == "group":
        return [(rest, tuple(row)) for rest, row in itertools.groupby(a, lambda number: number % line[1])]
    if word == "window":
        return list(zip(*[a[at:] for at in range(line[1])]))
    if word == "fold":
        return list(itertools.accumulate(a, lambda one, other: fold_once(line[1], one, other), initial=line[2]))[1:]
    return {"chain": lambda: a + b, "pair": lambda: list(zip(a, b)), "merge": lambda: list(heapq.merge(a, b))
            if sorted(a) == a and sorted(b) == b else merged(a, b)}[word]()


def merged(a, b):
    a, b, out = list(a), list(b), []
    while a and b:
        out.append(b.pop(0) if b[0] < a[0] else a.pop(0))
    return out + a + b


def line_pulls(line, a, b, given):
    """For each item of a line, and for the pull that finds its end, whom it pulls: a text of A and B."""
    word, end = line[0], len(given)
    if word in ("map", "fold"):
        return ["A"] * (end + 1)
    if word in ("keep", "while"):
        met = [all_met(line[1], number) for number in a]
        if word == "while":
            return ["A"] * (end + 1)
        ends = [at + 1 for at, holds in enumerate(met) if holds] + [len(a) + 1]
        return ["A" * (new - old) for old, new in zip([0] + ends, ends)]
    if word == "take":
        return ["A"] * end + ["" if end == line[1] else "A"]
    if word == "skip":
        first = min(line[1], len(a)) + 1
        return ["A" * first] + ["A"] * end
    if word == "window":
        return ["A" * min(line[1], len(a) + 1)] + ["A"] * end
    if word == "group":
        if not a:
            return ["A"]
        sizes = [len(row) for _, row in given]
        return ["A" * (sizes[0] + 1)] + ["A" * size for size in sizes[1:]] + ["A"]
    if word == "chain":
        return ["A"] * len(a) + ["AB"] + ["B"] * len(b)
    if word == "pair":
        return ["AB"] * end + ["A" if len(a) <= len(b) else "AB"]
    return merge_pulls(a, b)


def merge_pulls(a, b):
    pulls, i, j, hold_a, hold_b = [], 0, 0, False, False
    for _ in range(len(a) + len(b) + 1):
        pulls.append(("" if hold_a else "A") + ("" if hold_b else "B"))
        if j >= len(b) or (i < len(a) and a[i] <= b[j]):
            i, hold_a, hold_b = i + 1, False, True
        else:
            j, hold_a, hold_b = j + 1, True, False
    return pulls


def whole(weave, lists):
    """The list of each line's items."""
    told = []
    for line in weave:
        if line[0] == "source":
            told.append(list(lists[line[1]]))
        else:
            told.append(line_given(line, told[a_of(line)], told[b_of(line)]))
    return told


def a_of(line):
    return line[1] if line[0] in ("chain", "pair", "merge") else line[-1]


def b_of(line):
    return line[2] if line[0] in ("chain", "pair", "merge") else line[-1]


class Model:
    """A run as points 7 to 9 tell it."""

    def __init__(self, weave, outs, lists):
        self.weave, self.given = weave, whole(weave, lists)
        self.pulls = []
        for line, given in zip(weave, self.given):
            if line[0] == "source":
                self.pulls.append([])
            else:
                self.pulls.append(line_pulls(line, self.given[a_of(line)], self.given[b_of(line)], given))
        self.made = [0] * len(weave)
        self.ended = [False] * len(weave)
        self.parted = [False] * len(weave)
        self.asked, self.gone = [], []
        # (who, side) stands at an item of a line, and is taken away where it is let go of.
        self.places = {("out", j): [out, 0] for j, out in enumerate(outs)}
        for at, line in enumerate(weave):
            for side, of in self.sides(line):
                self.places[(at, side)] = [of, 0]
        for at in reversed(range(len(weave))):
            self.part_if_unwanted(at)
        named = [line[1] for line in weave if line[0] == "source"]
        self.gone = sorted(self.gone + [k for k in range(len(lists)) if k not in named])

    def sides(self, line):
        if line[0] == "source":
            return []
        if line[0] in ("chain", "pair", "merge"):
            return [("A", line[1]), ("B", line[2])]
        return [("A", line[-1])]

    def pull(self, j):
        return self.pull_place(("out", j))

    def let_go(self, j):
        self.leave(("out", j))

    def pull_place(self, who):
        at, position = self.places[who]
        if position == self.made[at] and not self.ended[at]:
            self.make(at)
        if position == self.made[at]:
            return None
        self.places[who][1] += 1
        return self.given[at][position]

    def make(self, at):
        line = self.weave[at]
        if line[0] == "source":
            self.asked.append(line[1])
        else:
            for side in self.pulls[at][self.made[at]]:
                self.pull_place((at, side))
        if self.made[at] == len(self.given[at]):
            self.ended[at] = True
            self.part(at)
        else:
            self.made[at] += 1

    def leave(self, who):
        at, _ = self.places.pop(who)
        self.part_if_unwanted(at)

    def part_if_unwanted(self, at):
        if not any(of == at for of, _ in self.places.values()):
            self.part(at)

    def part(self, at):
        if self.parted[at]:
            return
        self.parted[at] = True
        if self.weave[at][0] == "source":
            self.gone.append(self.weave[at][1])
        for side, _ in self.sides(self.weave[at]):
            self.leave((at, side))
