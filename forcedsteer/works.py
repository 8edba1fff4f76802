"""Works: parts, and the ties by which they push one another."""

from forcedsteer.errors import InvalidParts, InvalidText, InvalidTies, UnknownName
from forcedsteer.limits import MOST_PARTS
from forcedsteer.names import is_among, is_name, is_pair


def _check_parts(parts):
    """Raise InvalidParts if any value is not the parts of some works."""
    if not isinstance(parts, tuple) or len(parts) == 0:
        raise InvalidParts(None)
    for at, part in enumerate(parts):
        if at == MOST_PARTS or not is_name(part) or part in parts[:at]:
            raise InvalidParts(at)


def _check_ties(ties, parts):
    """Raise InvalidTies if any value is not the ties of works with these parts."""
    # There are only 56 pairs of eight parts, so a tie too many is always
    # one that is there already.
    if not isinstance(ties, tuple):
        raise InvalidTies(None)
    for at, tie in enumerate(ties):
        if not is_pair(tie, parts) or tie in ties[:at]:
            raise InvalidTies(at)


class Works:
    """Works as they were made: nothing changes them."""

    def __init__(self, parts, ties=()):
        _check_parts(parts)
        _check_ties(ties, parts)
        self._parts = parts
        self._ties = ties

    @classmethod
    def read(cls, text):
        """The works with this text."""
        if not isinstance(text, str):
            raise InvalidText(text)
        # A line of another form gives no pair of parts, and a wrong first
        # line no names; the class itself refuses both.
        first, *rest = text.split("\n")
        parts = tuple(first.split(" "))
        ties = tuple([tuple(line.split(" > ")) for line in rest])
        try:
            return cls(parts, ties)
        except (InvalidParts, InvalidTies):
            raise InvalidText(text) from None

    @property
    def parts(self):
        """The parts, as they were passed."""
        return self._parts

    @property
    def ties(self):
        """The ties, as they were passed."""
        return self._ties

    def pushes(self, part):
        """The parts that this one pushes, in the order of the parts."""
        if not is_among(part, self._parts):
            raise UnknownName(part)
        return tuple([other for other in self._parts if (part, other) in self._ties])

    def __len__(self):
        return len(self._parts)

    def __str__(self):
        lines = [f"{one} > {other}" for one, other in self._ties]
        return "\n".join([" ".join(self._parts), *lines])

    def __eq__(self, other):
        return isinstance(other, Works) and self._parts == other._parts and self._ties == other._ties
