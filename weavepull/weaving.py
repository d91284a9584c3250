"""Runs of a weave by pulling."""

from weavepull.lines import looked
from weavepull.sources import Sources
from weavepull.walks import Outlets


class Run:
    """A run by pulling: its outlets, and the sources that were asked and let go of."""

    def __init__(self, weave, outs, lists):
        looked(weave, len(lists))
        self.sources = ListedSources(lists)
        self.outlets = Outlets(weave, outs, self.sources)

    def pull(self, j):
        """The next item of the outlet j, None at its end and behind it."""
        return self.outlets.place(j).pull()

    def let_go(self, j):
        """Lets go of the outlet j."""
        self.outlets.let_go(j)

    def asked(self):
        """The sources that were asked, in order."""
        return list(self.sources.asks)

    def gone(self):
        """The sources that were let go of, in order."""
        return list(self.sources.left)


class ListedSources(Sources):
    """The sources of a run, each with a list of its numbers."""

    def __init__(self, lists):
        super().__init__(len(lists))
        self.lists = [list(numbers) for numbers in lists]
        self.nexts = [0] * len(lists)
        self.asks = []

    def ask(self, k):
        """The next number of the source k, None at its end."""
        self.asks.append(k)
        at = self.nexts[k]
        if at == len(self.lists[k]):
            return None
        self.nexts[k] = at + 1
        return self.lists[k][at]
