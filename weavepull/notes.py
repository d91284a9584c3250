"""Weaves as texts: a row for each line."""

from weavepull.errors import BadText

DEEDS = ("add", "times", "minus", "first", "second", "both", "sum", "many")
TESTS = ("below", "over", "rest")
FOLDS = ("add", "times", "least", "most")
# How many numbers stand behind the word of a deed or a test, where it is not one.
NUMBERS = {"minus": 0, "first": 0, "second": 0, "both": 0, "sum": 0, "many": 0, "rest": 2}
MOST_FIGURES = 9


def written(weave):
    """The weave as a text."""
    return "\n".join([row_of(line) for line in weave])


def row_of(line):
    """The row of a line."""
    if line[0] in ("source", "chain", "pair", "merge"):
        return side_by_side(line)
    if line[0] in ("map", "keep", "while"):
        parts = ", ".join([side_by_side(part) for part in line[1]])
        return f"{line[0]} {parts} of {line[2]}"
    return f"{side_by_side(line[:-1])} of {line[-1]}"


def side_by_side(words):
    """Words and numbers with a blank between two."""
    return " ".join([str(word) for word in words])


def read(text):
    """The lines of the weave that the text is of; refuses the first row that is no line's."""
    weave = []
    for at, row in enumerate(text.split("\n")):
        line = line_read(row.split(" "))
        if line is None:
            raise BadText(at)
        weave.append(line)
    return weave


def line_read(words):
    """The line that a row's words tell, None if they tell none."""
    if words[0] == "source":
        return numbers_read(words, 1)
    if words[0] in ("chain", "pair", "merge"):
        return numbers_read(words, 2)
    if len(words) < 3 or words[-2] != "of":
        return None
    ahead = ahead_of_place(words[:-2])
    a = number_read(words[-1])
    if ahead is None or a is None:
        return None
    return ahead + (a,)


def ahead_of_place(words):
    """What stands in a line ahead of A, None if the words tell no such thing."""
    if words[0] in ("take", "skip", "group", "window"):
        return numbers_read(words, 1)
    if words[0] == "fold" and len(words) == 3 and words[1] in FOLDS:
        number = number_read(words[2])
        return None if number is None else ("fold", words[1], number)
    if words[0] == "map":
        return parts_read(words, DEEDS)
    if words[0] in ("keep", "while"):
        return parts_read(words, TESTS)
    return None


def parts_read(words, known):
    """A line's word and its deeds or tests, of known words alone, None if one of them is no such."""
    parts = [part_read(part.split(" "), known) for part in " ".join(words[1:]).split(", ")]
    return None if None in parts else (words[0], tuple(parts))


def part_read(words, known):
    """A deed or a test, None if the words tell none."""
    if words[0] not in known:
        return None
    return numbers_read(words, NUMBERS.get(words[0], 1))


def numbers_read(words, many):
    """The first word and so many numbers behind it, None if the others are not that."""
    numbers = [number_read(word) for word in words[1:]]
    if len(numbers) != many or None in numbers:
        return None
    return (words[0], *numbers)


def number_read(word):
    """The number that is written so, None if none is."""
    if not (word.isascii() and word.isdigit()) or len(word) > MOST_FIGURES:
        return None
    if word[0] == "0" and word != "0":
        return None
    return int(word)
