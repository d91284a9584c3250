"""A second telling of point 11 for the tests: each line is a coroutine that really stands where it comes to what has
not come, with all that it has in hand, and is gone on with from just there."""

from model import all_met, done_all, fold_once

WAIT = object()


class Seat:
    """A place among a line's items."""

    def __init__(self, line):
        self.line, self.at = line, 0
        line.seats.append(self)

    def want(self):
        """A coroutine for the next item, None at the end: it yields WAIT as often as it stands."""
        while self.at == len(self.line.items) and not self.line.over:
            told = next(self.line.steps, None)
            if told is WAIT:
                yield WAIT
            elif told is None:
                self.line.over = True
                self.line.part()
            else:
                self.line.items.append(told[0])
        if self.at == len(self.line.items):
            return None
        self.at += 1
        return self.line.items[self.at - 1]

    def leave(self):
        self.line.seats.remove(self)
        if not self.line.seats:
            self.line.part()


class Line:
    """A line: its steps yield WAIT, or an item in a tuple of one, and stop at its end."""

    def __init__(self, push, told, lines):
        self.push, self.told = push, told
        self.items, self.seats, self.over, self.parted = [], [], False, False
        if told[0] == "source":
            self.a = self.b = None
        elif told[0] in ("chain", "pair", "merge"):
            self.a, self.b = Seat(lines[told[1]]), Seat(lines[told[2]])
        else:
            self.a, self.b = Seat(lines[told[-1]]), None
        self.steps = getattr(self, told[0] + "_steps")()

    def part(self):
        if self.parted:
            return
        self.parted = True
        if self.told[0] == "source":
            self.push.gone.append(self.told[1])
        for seat in (self.a, self.b):
            if seat is not None:
                seat.leave()

    def source_steps(self):
        feed = self.push.feeds[self.told[1]]
        for at in range(10 ** 9):
            while at == len(feed):
                yield WAIT
            if feed[at] is None:
                return
            yield (feed[at],)

    def map_steps(self):
        while (item := (yield from self.a.want())) is not None:
            yield (done_all(self.told[1], item),)

    def keep_steps(self):
        while (number := (yield from self.a.want())) is not None:
            if all_met(self.told[1], number):
                yield (number,)

    def while_steps(self):
        while (number := (yield from self.a.want())) is not None and all_met(self.told[1], number):
            yield (number,)

    def take_steps(self):
        for _ in range(self.told[1]):
            item = yield from self.a.want()
            if item is None:
                return
            yield (item,)

    def skip_steps(self):
        for _ in range(self.told[1]):
            if (yield from self.a.want()) is None:
                return
        while (item := (yield from self.a.want())) is not None:
            yield (item,)

    def group_steps(self):
        row = []
        while (number := (yield from self.a.want())) is not None:
            if row and row[0] % self.told[1] != number % self.told[1]:
                yield ((row[0] % self.told[1], tuple(row)),)
                row = []
            row.append(number)
        if row:
            yield ((row[0] % self.told[1], tuple(row)),)

    def window_steps(self):
        row = []
        while (item := (yield from self.a.want())) is not None:
            row.append(item)
            if len(row) == self.told[1]:
                yield (tuple(row),)
                row.pop(0)

    def fold_steps(self):
        so_far = self.told[2]
        while (number := (yield from self.a.want())) is not None:
            so_far = fold_once(self.told[1], so_far, number)
            yield (so_far,)

    def chain_steps(self):
        for seat in (self.a, self.b):
            while (item := (yield from seat.want())) is not None:
                yield (item,)

    def pair_steps(self):
        while (one := (yield from self.a.want())) is not None:
            other = yield from self.b.want()
            if other is None:
                return
            yield ((one, other),)

    def merge_steps(self):
        one = yield from self.a.want()
        other = yield from self.b.want()
        while one is not None and other is not None:
            if other < one:
                yield (other,)
                other = yield from self.b.want()
            else:
                yield (one,)
                one = yield from self.a.want()
        while one is not None:
            yield (one,)
            one = yield from self.a.want()
        while other is not None:
            yield (other,)
            other = yield from self.b.want()


class Standing:
    """A pushed weave as point 11 tells it."""

    def __init__(self, weave, outs, many):
        self.feeds, self.gone, lines = [[] for _ in range(many)], [], []
        for told in weave:
            lines.append(Line(self, told, lines))
        self.seats = [Seat(lines[out]) for out in outs]
        for line in reversed(lines):
            if not line.seats:
                line.part()
        named = [told[1] for told in weave if told[0] == "source"]
        self.gone = sorted(self.gone + [k for k in range(many) if k not in named])
        self.wants = [self.out_steps(seat) for seat in self.seats]

    def out_steps(self, seat):
        item = 0
        while item is not None:
            item = yield from seat.want()
            yield (item,)

    def follows(self):
        followed = []
        for j, want in enumerate(self.wants):
            while want is not None and (told := next(want, WAIT)) is not WAIT:
                followed.append((j, told[0]))
        return followed

    def give(self, k, item):
        self.feeds[k].append(item)
        return self.follows()

    def end(self, k):
        return self.give(k, None)

    def let_go(self, j):
        self.wants[j] = None
        self.seats[j].leave()
