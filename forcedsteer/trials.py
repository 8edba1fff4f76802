"""Trials: for a with statement, whose block can be taken back as a whole."""


class Kept:
    """The moments of an owner when a block began, and what was kept for the blocks around it."""

    def __init__(self, moments, around):
        self.moments = moments
        self.around = around


class Trial:
    """Puts its owner back, when a block ends, to the moments that it had when the block began.

    The owner has an attribute moments, a tuple of all that it has been. With
    lasting None this is always done, with True only if the block ends with an
    exception.
    """

    def __init__(self, owner, lasting):
        self._owner = owner
        self._lasting = lasting
        # One trial may serve blocks within one another.
        self._kept = None

    def __enter__(self):
        self._kept = Kept(self._owner.moments, self._kept)
        return self._owner

    def __exit__(self, kind, value, trace):
        owner = self._owner
        if kind is not None or self._lasting is None:
            owner.moments = self._kept.moments
        self._kept = self._kept.around
