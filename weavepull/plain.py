"""What the lines of a weave give, told by whole lists."""

from weavepull.deeds import all_done, all_hold, folded
from weavepull.lines import looked, named


def plain(weave, lists):
    """A list with the list of each line's items."""
    looked(weave, len(lists))
    told = []
    for line in weave:
        if line[0] == "source":
            told.append(list(lists[line[1]]))
        else:
            told.append(woven(line, [told[a] for a in named(line)]))
    return told


def woven(line, ahead):
    """The items of a line that names others, of the lists of their items."""
    if line[0] == "chain":
        return ahead[0] + ahead[1]
    if line[0] == "pair":
        return [(one, other) for one, other in zip(ahead[0], ahead[1])]
    if line[0] == "merge":
        return merged(ahead[0], ahead[1])
    return woven_of_one(line, ahead[0])


def woven_of_one(line, given):
    """The items of a line that names one other, of the list of that one's items."""
    word = line[0]
    if word == "map":
        return [all_done(line[1], item) for item in given]
    if word == "keep":
        return [number for number in given if all_hold(line[1], number)]
    if word == "while":
        return ahead_of_failing(line[1], given)
    if word == "take":
        return given[:line[1]]
    if word == "skip":
        return given[line[1]:]
    if word == "group":
        return grouped(line[1], given)
    if word == "window":
        return [tuple(given[at:at + line[1]]) for at in range(len(given) - line[1] + 1)]
    return folds(line[1], line[2], given)


def ahead_of_failing(tests, numbers):
    """The numbers ahead of the first that does not meet the tests."""
    met = []
    for number in numbers:
        if not all_hold(tests, number):
            break
        met.append(number)
    return met


def grouped(by, numbers):
    """For each stretch of numbers with the same rest the pair of the rest and the row of them."""
    stretches = []
    for number in numbers:
        if stretches and stretches[-1][0] == number % by:
            stretches[-1][1].append(number)
        else:
            stretches.append((number % by, [number]))
    return [(rest, tuple(stretch)) for rest, stretch in stretches]


def folds(word, start, numbers):
    """What came so far and a number folded, for each number."""
    told = []
    so_far = start
    for number in numbers:
        so_far = folded(word, so_far, number)
        told.append(so_far)
    return told


def merged(one, other):
    """The numbers of both, of the two next ones always the lesser, of equal ones the first list's."""
    told = []
    at = 0
    for number in other:
        while at < len(one) and one[at] <= number:
            told.append(one[at])
            at += 1
        told.append(number)
    return told + one[at:]
