"""Pushes of a weave, with what followed."""

from weavepull.pushing import Push


def pushed(line, numbers, kind=()):
    """What one outlet on a line over the source 0 gives: ahead of all, behind each number, behind the end.

    What stands in `kind` are lines between the source and the line.
    """
    weave = [("source", 0), *kind, line]
    push = Push(weave, [len(weave) - 1], 1)
    told = [push.follows()]
    assert push.follows() == []
    for number in numbers:
        told.append(push.give(0, number))
        assert push.follows() == []
    told.append(push.end(0))
    assert push.follows() == []
    assert {j for answer in told for j, _ in answer} <= {0}
    return [[item for _, item in answer] for answer in told]


def events(lists, order):
    """What comes, in an order of the sources: each one's numbers and, behind them, its end (None)."""
    nexts = [0] * len(lists)
    told = []
    for k in order:
        told.append((k, lists[k][nexts[k]] if nexts[k] < len(lists[k]) else None))
        nexts[k] += 1
    return told


def come(push, k, item):
    return push.end(k) if item is None else push.give(k, item)


def all_orders(many):
    """All orders in which so many things of each source can come."""
    if not any(many):
        return [[]]
    orders = []
    for k, left in enumerate(many):
        if left:
            fewer = many[:k] + [left - 1] + many[k + 1:]
            orders.extend([k, *order] for order in all_orders(fewer))
    return orders
