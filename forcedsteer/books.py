"""Books: works under names, and wishes that hold after each change."""

from forcedsteer.checks import check_works
from forcedsteer.errors import Broken, InvalidIndex, InvalidName, InvalidWish, NothingToUndo, UnknownName
from forcedsteer.exact import is_whole
from forcedsteer.names import is_among, is_name
from forcedsteer.trials import Attempt
from forcedsteer.wishes import holds, is_wish


class Book:
    """A book of works, at first without works and wishes."""

    def __init__(self):
        # Pairs of a dict of works under their names and a tuple of wishes:
        # one more for each change that can be taken back, the last one as it
        # is now. The dicts are never changed.
        self.moments = (({}, ()),)

    def _shelf(self):
        """The works under their names, as they are now."""
        return self.moments[-1][0]

    def _change(self, shelf, wishes):
        """Make a change, if all wishes hold with it."""
        for at, wish in enumerate(wishes):
            if not holds(shelf[wish[1]], wish):
                raise Broken(at)
        self.moments = self.moments + ((shelf, wishes),)

    def __setitem__(self, name, works):
        if not is_name(name):
            raise InvalidName(name)
        check_works(works)
        shelf = self._shelf()
        self._change({**shelf, name: works}, self.wishes)

    def __getitem__(self, name):
        if not is_among(name, self._shelf()):
            raise UnknownName(name)
        return self._shelf()[name]

    def __contains__(self, value):
        return is_among(value, self._shelf())

    def __len__(self):
        return len(self.moments[-1][0])

    def __bool__(self):
        return True

    def __iter__(self):
        raise TypeError("a book is not iterated over")

    @property
    def names(self):
        """The names, ascending."""
        return tuple(sorted(self._shelf()))

    @property
    def wishes(self):
        """The wishes, as they were passed."""
        return self.moments[-1][1]

    @property
    def changes(self):
        """How many changes can be taken back."""
        return len(self.moments) - 1

    def wish(self, wish):
        """A wish more, behind the others."""
        if not is_wish(wish):
            raise InvalidWish(wish)
        if wish[1] not in self:
            raise UnknownName(wish[1])
        self._change(self._shelf(), self.wishes + (wish,))

    def lift(self, index):
        """Take a wish away."""
        wishes = self.wishes
        if not is_whole(index) or not 0 <= index < len(wishes):
            raise InvalidIndex(index)
        self._change(self._shelf(), wishes[:index] + wishes[index + 1:])

    def undo(self):
        """Take back the last change that has not been taken back."""
        if self.changes == 0:
            raise NothingToUndo()
        self.moments = self.moments[:-1]

    def trial(self):
        """A trial for a with statement: what is done in its block is taken back if it ends with an exception."""
        return Attempt(self)

    def tried(self, action):
        """What the action returns that is called with the book in a trial."""
        with self.trial() as book:
            return action(book)
