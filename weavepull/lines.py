"""The lines of a weave: which of them can be, and what kind their items have."""

from weavepull.deeds import NUMBER, deeds_can_be, is_number, kind_made, tests_can_be
from weavepull.errors import BadLine

MOST_LINES = 24
MOST_TAKEN = 9999
WIDEST = 9


def looked(weave, many):
    """The kinds of all lines, for so many sources; refuses the first line that cannot be."""
    if len(weave) == 0:
        raise BadLine(0, "many")
    if len(weave) > MOST_LINES:
        raise BadLine(MOST_LINES, "many")
    kinds = []
    sources = []
    for at, line in enumerate(weave):
        if not place_can_be(line, at, many, sources):
            raise BadLine(at, "place")
        if not numbers_can_be(line):
            raise BadLine(at, "number")
        kind = kind_of(line, [kinds[a] for a in named(line)])
        if kind is None:
            raise BadLine(at, "kind")
        if line[0] == "source":
            sources.append(line[1])
        kinds.append(kind)
    return kinds


def named(line):
    """The numbers of the lines that a line names, A's ahead of B's."""
    if line[0] == "source":
        return []
    if line[0] in ("chain", "pair", "merge"):
        return [line[1], line[2]]
    return [line[-1]]


def place_can_be(line, at, many, sources):
    """Whether the line names lines ahead alone, or a source that no line ahead names."""
    if line[0] == "source":
        return 0 <= line[1] < many and line[1] not in sources
    return all([0 <= a < at for a in named(line)])


def numbers_can_be(line):
    """Whether the line's own numbers, and how many deeds or tests it has, may be."""
    word = line[0]
    if word == "map":
        return deeds_can_be(line[1])
    if word in ("keep", "while"):
        return tests_can_be(line[1])
    if word in ("take", "skip"):
        return 0 <= line[1] <= MOST_TAKEN
    if word == "group":
        return line[1] >= 1 and is_number(line[1])
    if word == "window":
        return 1 <= line[1] <= WIDEST
    if word == "fold":
        return is_number(line[2])
    return True


def kind_of(line, kinds):
    """The kind of a line's items, None if it cannot be; kinds are those of the lines that it names."""
    word = line[0]
    if word == "map":
        return kind_made(line[1], kinds[0])
    if word in ("take", "skip"):
        return kinds[0]
    if word == "window":
        return ("row", kinds[0])
    if word == "pair":
        return ("pair", kinds[0], kinds[1])
    if word == "chain":
        return kinds[0] if kinds[0] == kinds[1] else None
    if not all([kind == NUMBER for kind in kinds]):
        return None
    return ("pair", NUMBER, ("row", NUMBER)) if word == "group" else NUMBER
