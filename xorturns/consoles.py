"""A console: commands in words for a board."""

from xorturns.counts import pair_counts
from xorturns.errors import Busy, Missing, NoIndex, NoMask, NothingToUndo, Present, TooManyEdits, TooNear
from xorturns.texts import lot_text, number_of
from xorturns.turns import keepers

MOST_ROWS = 20
UNKNOWN = "unknown command"


def listed(numbers):
    """Return the numbers with one space between two."""
    return " ".join([str(number) for number in numbers])


def done_text(version):
    """Return the answer to a command that led to this version."""
    return f"ok {version}"


def kept_text(kept):
    """Return the word for True, False or None."""
    if kept is None:
        return "none"
    return "yes" if kept else "no"


class Console:
    """Answers the commands for one board and remembers the last ones."""

    def __init__(self, board):
        self.board = board
        self.rows = ()

    @property
    def history(self):
        """The tuple of the last pairs (line, answer), the oldest one first."""
        return self.rows

    def execute(self, line):
        """Return the answer to a line."""
        text = line if isinstance(line, str) else None
        answer = UNKNOWN if text is None else self.answer_or_error(text.split(" "))
        rows = (*self.rows, (text, answer))
        self.rows = rows[-MOST_ROWS:]
        return answer

    def answer_or_error(self, words):
        """Return the answer to the words of a line, also if the board raises an error."""
        try:
            return self.answer(words)
        except Busy:
            return "error Busy"
        except TooManyEdits:
            return "error TooManyEdits"
        except NoMask:
            return "error NoMask"
        except Present:
            return "error Present"
        except Missing:
            return "error Missing"
        except TooNear:
            return "error TooNear"
        except NothingToUndo:
            return "error NothingToUndo"
        except NoIndex:
            return "error NoIndex"

    def answer(self, words):
        """Return the answer to the words of a line."""
        if len(words) == 1:
            return self.answer_to_word(words[0])
        number = number_of(words[1])
        if len(words) > 2 or number is None:
            return UNKNOWN
        return self.answer_to_number(words[0], number)

    def answer_to_word(self, word):
        """Return the answer to a line of one word."""
        if word == "flip":
            return done_text(self.board.flip())
        if word == "undo":
            return done_text(self.board.undo())
        if word == "lot":
            return lot_text(self.board.lot)
        if word == "size":
            return str(self.board.size)
        if word == "kept":
            return kept_text(self.board.kept)
        if word == "keepers":
            return listed(keepers(self.board.lot))
        if word == "pairs":
            return listed(pair_counts(self.board.lot))
        return UNKNOWN

    def answer_to_number(self, word, number):
        """Return the answer to a line of a word and a number."""
        if word == "add":
            return done_text(self.board.add(number))
        if word == "drop":
            return done_text(self.board.drop(number))
        if word == "turn":
            return done_text(self.board.turn(number))
        if word == "look":
            return kept_text(self.board.look(number))
        if word == "at":
            return str(self.board[number])
        return UNKNOWN
