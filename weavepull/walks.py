"""The lines of a weave at work: each gives its items one by one to all that have a place in it."""

from weavepull.errors import LetGo, NoOutlet
from weavepull.lines import named
from weavepull.steps import next_item


class Walk:
    """A line at work: the items that it has made, its places in others, and how many have a place in it."""

    def __init__(self, line, places, sources):
        self.line = line
        self.places = places
        self.sources = sources
        self.made = []
        self.holders = 0
        self.over = False
        self.loose = False
        # A group's numbers of the stretch that it is at.
        self.stretch = []
        # What a pair or a merge has pulled from A and from B and not given yet.
        self.held = [None, None]

    def make(self):
        """Makes the next item; a line that finds that there is none is at its end and lets go."""
        if self.over:
            return
        item = next_item(self)
        if item is None:
            self.over = True
            self.let_go()
        else:
            self.made.append(item)

    def pulled(self, side):
        """The next item of A (0) or B (1), None at its end."""
        return self.places[side].pull()

    def holding(self, side):
        """The item held of A (0) or B (1), pulled if there is none; None at its end."""
        if self.held[side] is None:
            self.held[side] = self.pulled(side)
        return self.held[side]

    def let_go(self):
        """Lets go of the places in others, or of the source, but only once."""
        if self.loose:
            return
        self.loose = True
        for place in self.places:
            place.leave()
        if self.line[0] == "source":
            self.sources.leave(self.line[1])


class Place:
    """A place among a walk's items, of a line that names it or of an outlet."""

    def __init__(self, walk):
        self.walk = walk
        self.at = 0
        walk.holders += 1

    def pull(self):
        """The item at this place, None at the walk's end; the place is behind it then."""
        walk = self.walk
        if self.at == len(walk.made):
            walk.make()
        if self.at == len(walk.made):
            return None
        self.at += 1
        return walk.made[self.at - 1]

    def leave(self):
        """Lets go of the place, and with the last one the walk lets go."""
        walk = self.walk
        walk.holders -= 1
        if walk.holders == 0:
            walk.let_go()


class Outlets:
    """The places that a weave is pulled by from outside, None for one that was let go of."""

    def __init__(self, weave, outs, sources):
        outs_looked(weave, outs)
        walks = walks_of(weave, sources)
        self.outs = [Place(walks[out]) for out in outs]
        for walk in walks:
            if walk.holders == 0:
                walk.let_go()
        sources.leave_unnamed([line[1] for line in weave if line[0] == "source"])

    def place(self, j):
        """The place of the outlet j, which must be there."""
        if not 0 <= j < len(self.outs):
            raise NoOutlet(f"there is no outlet {j}")
        if self.outs[j] is None:
            raise LetGo(f"the outlet {j} was let go of")
        return self.outs[j]

    def let_go(self, j):
        """Lets go of the outlet j."""
        place = self.place(j)
        self.outs[j] = None
        place.leave()


def outs_looked(weave, outs):
    """Refuses a number among the outlets that is no line's."""
    for out in outs:
        if not 0 <= out < len(weave):
            raise NoOutlet(f"{out} is no line's number")


def walks_of(weave, sources):
    """The walks of all lines, with places in each other."""
    walks = []
    for line in weave:
        places = [Place(walks[a]) for a in named(line)]
        walks.append(Walk(line, places, sources))
    return walks
