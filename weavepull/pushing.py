"""Weaves that are pushed: items come from outside, one by one, and what can be given of them follows."""

from weavepull.errors import NoSource, Over
from weavepull.lines import looked
from weavepull.sources import Sources
from weavepull.walks import Outlets


class NotYet(Exception):
    """A source was asked for what has not come yet: the pull that came to it stands."""


class Push:
    """A weave that is pushed: its outlets, and the sources that were let go of."""

    def __init__(self, weave, outs, many):
        looked(weave, many)
        self.sources = ComingSources(many)
        self.outlets = Outlets(weave, outs, self.sources)
        # The outlets that have given their end.
        self.ended = [False] * len(outs)

    def follows(self):
        """What the outlets can give now, in their order: pairs of an outlet and an item, None for its end."""
        followed = []
        for j in range(len(self.ended)):
            followed.extend([(j, item) for item in self.given(j)])
        return followed

    def give(self, k, item):
        """Takes the next item of the source k; what follows."""
        self.sources.come(k, item)
        return self.follows()

    def end(self, k):
        """Takes the end of the source k; what follows."""
        self.sources.come_to_end(k)
        return self.follows()

    def let_go(self, j):
        """Lets go of the outlet j."""
        self.outlets.let_go(j)

    def gone(self):
        """The sources that were let go of, in order."""
        return list(self.sources.left)

    def given(self, j):
        """The items that the outlet j gives now, None for its end."""
        place = self.outlets.outs[j]
        items = []
        if place is None:
            return items
        try:
            while not self.ended[j]:
                item = place.pull()
                items.append(item)
                self.ended[j] = item is None
        except NotYet:
            # Lines keep all that they have pulled, so the next pull goes on from where this one stands.
            pass
        return items


class ComingSources(Sources):
    """The sources of a pushed weave: what has come of each and was not asked for yet."""

    def __init__(self, many):
        super().__init__(many)
        self.waiting = [[] for _ in range(many)]
        self.closed = [False] * many

    def come(self, k, item):
        """Takes an item of the source k, which must be there and not have had its end."""
        self.look(k)
        if k not in self.left:
            self.waiting[k].append(item)

    def come_to_end(self, k):
        """Takes the end of the source k."""
        self.look(k)
        self.closed[k] = True

    def look(self, k):
        """Refuses a source that there is not, or that had its end."""
        if not 0 <= k < self.many:
            raise NoSource(f"there is no source {k}")
        if self.closed[k]:
            raise Over(f"the source {k} had its end")

    def ask(self, k):
        """The next item of the source k, None at its end."""
        if self.waiting[k]:
            return self.waiting[k].pop(0)
        if self.closed[k]:
            return None
        raise NotYet(f"nothing has come of the source {k} yet")
