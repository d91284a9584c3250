"""How often the sources of a weave are asked."""

from weavepull.lines import named
from weavepull.weaving import Run


def needs(weave, outs, counts, lists):
    """How often each source is asked where each outlet j is pulled counts[j] times, in whatever order."""
    # What a line pulls for its items is the same whoever wants them first, so any order tells it.
    run = Run(weave, outs, lists)
    drawn = drawn_on(weave)
    for j, count in enumerate(counts):
        pull_often(run, j, count, drawn[outs[j]])
    asked = run.asked()
    return [asked.count(k) for k in range(len(lists))]


def drawn_on(weave):
    """For each line the sources that it draws on, through whatever lines."""
    told = []
    for line in weave:
        if line[0] == "source":
            told.append([line[1]])
        else:
            told.append(sorted(set([k for a in named(line) for k in told[a]])))
    return told


def pull_often(run, j, count, sources):
    """Pulls the outlet j so often, or until nothing more can be asked by it."""
    # Chains of chains give very many items behind the end of their sources: none of these need be made.
    for _ in range(count):
        gone = run.gone()
        if all([k in gone for k in sources]) or run.pull(j) is None:
            return
