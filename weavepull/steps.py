"""How a line of each word makes its next item, pulling the lines that it names.

Each step keeps all that it has pulled in the walk or by the walk's places, and nothing beside them.
"""

from weavepull.deeds import all_done, all_hold, folded


def asked(walk):
    """A source's line asks the source."""
    return walk.sources.ask(walk.line[1])


def mapped(walk):
    """What the deeds make of A's next item."""
    item = walk.pulled(0)
    if item is None:
        return None
    return all_done(walk.line[1], item)


def kept(walk):
    """The next of A's items that meets the tests."""
    number = walk.pulled(0)
    while number is not None and not all_hold(walk.line[1], number):
        number = walk.pulled(0)
    return number


def ahead_of_failing(walk):
    """A's next item, if it meets the tests."""
    number = walk.pulled(0)
    if number is None or not all_hold(walk.line[1], number):
        return None
    return number


def taken(walk):
    """A's next item, if not all that are to be taken are given."""
    if len(walk.made) == walk.line[1]:
        return None
    return walk.pulled(0)


def behind_skipped(walk):
    """A's next item behind those that are to be skipped."""
    while walk.places[0].at < walk.line[1]:
        if walk.pulled(0) is None:
            return None
    return walk.pulled(0)


def grouped(walk):
    """The pair of the rest and the row of A's next stretch of items with the same rest."""
    by = walk.line[1]
    number = walk.pulled(0)
    while number is not None and (not walk.stretch or number % by == walk.stretch[0] % by):
        walk.stretch.append(number)
        number = walk.pulled(0)
    row = tuple(walk.stretch)
    walk.stretch = [] if number is None else [number]
    return (row[0] % by, row) if row else None


def windowed(walk):
    """The row of A's items side by side that begins with the next one."""
    place = walk.places[0]
    start = len(walk.made)
    while place.at < start + walk.line[1]:
        if place.pull() is None:
            return None
    return tuple(place.walk.made[start:place.at])


def folded_on(walk):
    """What came so far and A's next item, folded."""
    number = walk.pulled(0)
    if number is None:
        return None
    so_far = walk.made[-1] if walk.made else walk.line[2]
    return folded(walk.line[1], so_far, number)


def chained(walk):
    """A's next item, from A's end on B's."""
    item = walk.pulled(0)
    if item is None:
        return walk.pulled(1)
    return item


def paired(walk):
    """A's next item and B's, B's wanted only where A was not at its end."""
    one = walk.holding(0)
    if one is None:
        return None
    other = walk.holding(1)
    if other is None:
        return None
    walk.held = [None, None]
    return (one, other)


def merged(walk):
    """The lesser of A's next item and B's, of equal ones A's, behind the end of one the other's."""
    one = walk.holding(0)
    other = walk.holding(1)
    if one is None or (other is not None and other < one):
        walk.held[1] = None
        return other
    walk.held[0] = None
    return one


STEPS = {
    "source": asked,
    "map": mapped,
    "keep": kept,
    "while": ahead_of_failing,
    "take": taken,
    "skip": behind_skipped,
    "group": grouped,
    "window": windowed,
    "fold": folded_on,
    "chain": chained,
    "pair": paired,
    "merge": merged,
}


def next_item(walk):
    """The next item that the line makes, None if it is at its end."""
    step = STEPS[walk.line[0]]
    return step(walk)
