"""The sources of a weave, whichever way their numbers are had."""


class Sources:
    """So many sources, and those that were let go of, in order."""

    def __init__(self, many):
        self.many = many
        self.left = []

    def leave_unnamed(self, by_lines):
        """Lets go of the sources that no line names; all that are gone at the beginning are told rising."""
        unnamed = [k for k in range(self.many) if k not in by_lines]
        self.left = sorted(self.left + unnamed)

    def leave(self, k):
        """Lets go of the source k."""
        self.left.append(k)
