"""Trials: for a with statement, whose block can be taken back as a whole.

The owner of a trial has an attribute moments, a tuple of all that it has
been; changes and steps back give it another tuple.
"""


class Kept:
    """The moments of an owner when a block began, and what was kept for the blocks around it."""

    def __init__(self, moments, around):
        self.moments = moments
        self.around = around


class Trial:
    """What the two kinds of trials have in common."""

    def __init__(self, owner):
        self.owner = owner
        # One trial may serve blocks within one another.
        self.kept = None

    def begin(self):
        """Keep what the owner is; the owner."""
        self.kept = Kept(self.owner.moments, self.kept)
        return self.owner


class Rehearsal(Trial):
    """Puts its owner back in whatever way the block ends."""

    def __enter__(self):
        return self.begin()

    def __exit__(self, kind, value, trace):
        owner = self.owner
        owner.moments = self.kept.moments
        self.kept = self.kept.around


class Attempt(Trial):
    """Puts its owner back only if the block ends with an exception."""

    def __enter__(self):
        return self.begin()

    def __exit__(self, kind, value, trace):
        owner = self.owner
        if kind is not None:
            owner.moments = self.kept.moments
        self.kept = self.kept.around
