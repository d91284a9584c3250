"""Straight weaves: no line that nobody needs, and no two lines of one word where one would do."""

from weavepull.deeds import LONGEST
from weavepull.lines import MOST_TAKEN, looked, named
from weavepull.walks import outs_looked

JOINED = ("map", "keep", "while", "take", "skip")


def straight(weave, outs):
    """The weave made straight, and its outlets."""
    looked(weave, sources_told(weave))
    outs_looked(weave, outs)
    users = users_of(weave, outs)
    lines = {}
    for at, line in enumerate(weave):
        if users[at] == 0:
            continue
        if line[0] in JOINED and users[line[-1]] == 1 and can_be_one(lines[line[-1]], line):
            line = joined(lines.pop(line[-1]), line)
        lines[at] = line
    numbers = {at: number for number, at in enumerate(list(lines))}
    return [renumbered(lines[at], numbers) for at in lines], [numbers[out] for out in outs]


def sources_told(weave):
    """So many sources that each one that the weave names can be there."""
    return max([line[1] + 1 for line in weave if line[0] == "source"], default=0)


def users_of(weave, outs):
    """For each line how often it is named by lines that are needed, or pulled from outside."""
    users = [outs.count(at) for at in range(len(weave))]
    for at in reversed(range(len(weave))):
        if users[at] > 0:
            for a in named(weave[at]):
                users[a] += 1
    return users


def can_be_one(ahead, line):
    """Whether a line and the one ahead that it names can be one."""
    if line[0] != ahead[0]:
        return False
    if line[0] == "take":
        return True
    if line[0] == "skip":
        return ahead[1] + line[1] <= MOST_TAKEN
    return len(ahead[1]) + len(line[1]) <= LONGEST


def joined(ahead, line):
    """The one line that does what a line and the one ahead that it names do."""
    if line[0] == "take":
        return ("take", min(ahead[1], line[1]), ahead[2])
    return (line[0], ahead[1] + line[1], ahead[2])


def renumbered(line, numbers):
    """The line with the new numbers of the lines that it names."""
    if line[0] == "source":
        return line
    if line[0] in ("chain", "pair", "merge"):
        return (line[0], numbers[line[1]], numbers[line[2]])
    return line[:-1] + (numbers[line[-1]],)
