"""Checks that several tests share."""

import unittest

from tests.samples import WIDTHS
from xorturns.boards import ApartBoard, Board, LoggedApartBoard, LoggedBoard
from xorturns.errors import OtherWidth

KINDS = (Board, ApartBoard, LoggedBoard, LoggedApartBoard)
APART = (ApartBoard, LoggedApartBoard)
LOGGED = (LoggedBoard, LoggedApartBoard)


def told(board):
    """All that a board tells but its log."""
    return repr((
        type(board).__name__, board.lot, board.size, board.version, board.mark, board.kept, board.edits(),
        list(board.walk()), [board.lot_at(version) for version in range(board.version + 1)], board.as_set().lot,
        [board[index] for index in range(board.size)], [x for x in range(-1, 65) if x in board], str(board),
        len(board)))


def told_with_log(board):
    """All that a board tells, its log too if it has one."""
    return told(board), repr(board.log) if isinstance(board, LoggedBoard) else None


class LotCase(unittest.TestCase):
    """Checks that hold for every call: the same result twice, and no argument changed."""

    def called(self, function, *args, **more):
        before = repr((args, more))
        result = function(*args, **more)
        shown = repr(result)
        self.assertEqual(repr(function(*args, **more)), shown)
        self.assertEqual(repr((args, more)), before)
        return result

    def check_lot(self, result, width, masks):
        self.assertIs(type(result), tuple)
        self.assertIs(type(result[1]), tuple)
        self.assertEqual({type(x) for x in (result[0], *result[1])}, {int})
        self.assertEqual(result, (width, tuple(sorted(masks))))

    def check_call(self, wanted, function, *args, **more):
        """The result is wanted, in all its parts an int where that is an int, a tuple where that is a tuple."""
        result = self.called(function, *args, **more)
        if repr(result) != repr(wanted):
            self.fail(f"{function.__name__} of {args} {more} is {result}, not {wanted}")

    def check_raises(self, wanted, field, worth, function, *args, **more):
        before = repr((args, more))
        for again in range(2):
            with self.assertRaises(wanted) as caught:
                function(*args, **more)
            self.assertIs(type(caught.exception), wanted)
            if field is not None:
                self.assertIs(getattr(caught.exception, field), worth)
        self.assertEqual(repr((args, more)), before)

    def check_other_widths(self, function, *rest):
        """Two lots of different widths, whatever their masks and the further arguments are."""
        for first in WIDTHS:
            for second in WIDTHS:
                for masks in ((), (0,), (0, 1)):
                    if first != second:
                        with self.subTest(function=function.__name__, first=first, second=second, rest=rest):
                            args = (first, masks), (second, masks), *rest
                            self.check_raises(OtherWidth, "index", 1, function, *args)


class BoardCase(LotCase):
    """Checks of calls that fail."""

    def check_refused(self, board, wanted, fields, function, *args, **more):
        """The call raises this error with these very fields, and the board tells what it told before."""
        before, passed = told_with_log(board), repr((args, more))
        for again in range(2):
            with self.assertRaises(Exception) as caught:
                function(*args, **more)
            self.assertIs(type(caught.exception), wanted)
            for name, worth in fields.items():
                self.assertIs(getattr(caught.exception, name), worth)
            self.assertEqual(told_with_log(board), before)
        self.assertEqual(repr((args, more)), passed)
