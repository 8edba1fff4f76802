"""The console: a board that takes lines of text."""

from forcedsteer.boards import Board
from forcedsteer.errors import InvalidName, InvalidText, InvalidTie, NothingToUndo, UnknownName
from forcedsteer.forcing import forces
from forcedsteer.leading import fewest
from forcedsteer.names import is_name
from forcedsteer.some import sometimes_steers


def _listed(words):
    """These words with single spaces between."""
    return " ".join(words) if len(words) > 0 else "-"


def _yes_or_no(answer):
    """Whether it is so, as a word."""
    return "yes" if answer else "no"


def _text(board):
    return str(board.works)


def _leaders(board):
    return _listed(board.leaders)


def _known(board):
    return _listed(board.known())


def _forces(board):
    return _listed([f"{one}>{other}" for one, other in forces(board.works, board.leaders)])


def _sure(board):
    return _yes_or_no(board.sure())


def _some(board):
    return _yes_or_no(sometimes_steers(board.works, board.leaders))


def _fewest(board):
    return str(fewest(board.works))


def _help(board):
    return _HELP


_HELP = "text leaders known forces sure some fewest tie cut lead leave undo help"
_QUESTIONS = {
    "text": _text, "leaders": _leaders, "known": _known, "forces": _forces, "sure": _sure, "some": _some,
    "fewest": _fewest, "help": _help,
}
# How many names stand behind the words that ask for a change.
_NAMES_BEHIND = {"tie": 2, "cut": 2, "lead": 1, "leave": 1, "undo": 0}


def _change(board, word, names):
    """Make the change on the board that these words ask for."""
    if word == "tie":
        board.tie(names[0], names[1])
    elif word == "cut":
        board.cut(names[0], names[1])
    elif word == "lead":
        board.lead(names[0])
    elif word == "leave":
        board.leave(names[0])
    else:
        board.undo()


class Console:
    """A board that takes lines of text and answers each of them."""

    def __init__(self, works, leaders):
        self._board = Board(works, leaders)
        self._answers = []

    @property
    def said(self):
        """How many lines have been said."""
        return len(self._answers)

    @property
    def told(self):
        """All answers so far, in order."""
        return tuple(self._answers)

    def _answer(self, line):
        """The answer to a line, after its change, if it asks for one."""
        if line in _QUESTIONS:
            question = _QUESTIONS[line]
            return question(self._board)
        word, *names = line.split(" ")
        if _NAMES_BEHIND.get(word) != len(names) or not all([is_name(name) for name in names]):
            return "what"
        try:
            _change(self._board, word, names)
        except (UnknownName, InvalidTie, InvalidName, NothingToUndo):
            return "refused"
        return "done"

    def say(self, line):
        """The answer to this line."""
        if not isinstance(line, str):
            raise InvalidText(line)
        answer = self._answer(line)
        self._answers.append(answer)
        return answer
