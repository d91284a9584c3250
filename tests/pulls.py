"""Pulls of a run, with what each of them asked and let go of."""


def pull(run, j):
    """What the pull gave, the sources that it asked, those that it let go of."""
    asked, gone = len(run.asked()), len(run.gone())
    item = run.pull(j)
    return item, run.asked()[asked:], run.gone()[gone:]


def pulls(run, j, many):
    return [pull(run, j) for _ in range(many)]


def asks(run, j, many):
    """What each of so many pulls gave and asked."""
    return [pull(run, j)[:2] for _ in range(many)]


def all_of(run, j):
    """All items of the outlet that are to come."""
    items = []
    while (item := run.pull(j)) is not None:
        items.append(item)
    return items
