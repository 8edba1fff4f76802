"""Boards: works and leaders that change step by step, with steps back and trials."""

from forcedsteer.checks import check_leaders, check_part, check_works
from forcedsteer.errors import InvalidName, InvalidTie, NothingToUndo
from forcedsteer.forcing import always_steers, known
from forcedsteer.trials import Rehearsal
from forcedsteer.works import Works


class Board:
    """A board on which works and their leaders change."""

    def __init__(self, works, leaders):
        check_works(works)
        check_leaders(works, leaders)
        # Pairs of works and leaders: one more for each change that can be
        # taken back, the last one as they are now.
        self.moments = ((works, leaders),)

    @property
    def works(self):
        """The works as they are now."""
        return self.moments[-1][0]

    @property
    def leaders(self):
        """The leaders as they are now."""
        return self.moments[-1][1]

    @property
    def changes(self):
        """How many changes can be taken back."""
        return len(self.moments) - 1

    def _change(self, works, leaders):
        """Make a change: the works and leaders are these now."""
        self.moments = self.moments + ((works, leaders),)

    def _check_names(self, one, other):
        """Raise UnknownName if one of these values is no part."""
        check_part(self.works, one)
        check_part(self.works, other)

    def tie(self, one, other):
        """The one part pushes the other one, by a tie behind the others."""
        self._check_names(one, other)
        works = self.works
        if one == other or (one, other) in works.ties:
            raise InvalidTie((one, other))
        self._change(Works(works.parts, works.ties + ((one, other),)), self.leaders)

    def cut(self, one, other):
        """The one part does not push the other one any more."""
        self._check_names(one, other)
        works = self.works
        if (one, other) not in works.ties:
            raise InvalidTie((one, other))
        ties = tuple([pair for pair in works.ties if pair != (one, other)])
        self._change(Works(works.parts, ties), self.leaders)

    def lead(self, part):
        """The part is a leader, behind the others."""
        check_part(self.works, part)
        if part in self.leaders:
            raise InvalidName(part)
        self._change(self.works, self.leaders + (part,))

    def leave(self, part):
        """The part is no leader any more."""
        check_part(self.works, part)
        if part not in self.leaders:
            raise InvalidName(part)
        self._change(self.works, tuple([other for other in self.leaders if other != part]))

    def undo(self):
        """Take back the last change that has not been taken back."""
        if self.changes == 0:
            raise NothingToUndo()
        self.moments = self.moments[:-1]

    def sure(self):
        """Whether the leaders always steer the works now."""
        return always_steers(self.works, self.leaders)

    def known(self):
        """The parts that become known now, in order."""
        return known(self.works, self.leaders)

    def trial(self):
        """A trial for a with statement: what is done in its block is taken back when it ends."""
        return Rehearsal(self)

    def tried(self, action):
        """What the action returns that is called with the board in a trial."""
        with self.trial() as board:
            return action(board)
