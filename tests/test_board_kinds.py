"""What the three classes below Board do more."""

import unittest

from tests.cases import APART, KINDS, LOGGED, BoardCase, told_with_log
from tests.samples import WIDTHS, full_lot, odd_values, sample_lots
from xorturns.boards import ApartBoard, Board, LoggedApartBoard, LoggedBoard
from xorturns.errors import (
    BadEdit, BadEdits, BadLot, BadText, Missing, NoMask, NothingToUndo, Present, Rejected, TooManyEdits, TooNear)
from xorturns.lots import rest_of
from xorturns.texts import lot_text


class Odd(Exception):
    """An exception that the package does not know."""


def near_pair(lot):
    """The smallest pair of masks that differ in one bit only, None if there is none; without the program."""
    pairs = [(x, y) for x in lot[1] for y in lot[1] if x < y and bin(x ^ y).count("1") == 1]
    return min(pairs) if pairs else None


class ExamplesTest(BoardCase):

    def test_apart(self):
        board = ApartBoard((2, (0,)))
        self.assertEqual(repr([board.add(3), board.turn(1), board.lot]), "[1, 2, (2, (1, 2))]")

    def test_too_near(self):
        with self.assertRaises(TooNear) as caught:
            ApartBoard((2, (0, 1)))
        self.assertEqual((caught.exception.one, caught.exception.other), (0, 1))

    def test_logged(self):
        board = LoggedBoard((2, (0,)))
        values = [board.run([("add", 1), ("flip",)]), board.undo(), board.log]
        self.assertEqual(repr(values), "[2, 1, (('run', 2), ('undo', 1))]")

    def test_logged_and_apart(self):
        board = LoggedApartBoard.read("lot 2 0")
        values = [isinstance(board, ApartBoard), isinstance(board, LoggedBoard), board.log]
        self.assertEqual(repr(values), "[True, True, ()]")


class ApartTest(BoardCase):

    def check_near(self, pair, function, *args):
        with self.assertRaises(TooNear) as caught:
            function(*args)
        self.assertEqual(repr((caught.exception.one, caught.exception.other)), repr(pair))

    def test_made_and_read(self):
        for width in WIDTHS:
            for lot in sample_lots(width):
                pair = near_pair(lot)
                for kind in APART:
                    with self.subTest(kind=kind, lot=lot):
                        if pair is None:
                            self.assertEqual(kind(lot).lot, lot)
                            self.assertEqual(kind.read(lot_text(lot)).lot, lot)
                        else:
                            self.check_near(pair, kind, lot)
                            self.check_near(pair, kind.read, lot_text(lot))

    def test_made_of_other_values(self):
        for kind in APART:
            for value in ((2, (0, 1, 1)), (2, (0, 1, 4)), (7, (0, 1)), (2, [0, 1]), (True, (0, 1))):
                with self.assertRaises(BadLot):
                    kind(value)
            for value in ("lot 2 0 1 1", "lot 2 0 1 4", "lot 7 0 1", "lot 2 0 1 "):
                with self.assertRaises(BadText):
                    kind.read(value)

    def test_add(self):
        for kind in APART:
            for width in WIDTHS:
                even = tuple(x for x in range(2 ** width) if bin(x).count("1") % 2 == 0)
                for masks in (even, even[:1], even[-2:], even[1::2], ()):
                    for mask in range(2 ** width):
                        board = kind((width, masks))
                        after = (width, tuple(sorted({*masks, mask})))
                        pair = near_pair(after)
                        with self.subTest(kind=kind, masks=masks, mask=mask):
                            if mask in masks:
                                self.check_refused(board, Present, {"mask": mask}, board.add, mask)
                            elif pair is None:
                                self.assertEqual([board.add(mask), board.lot], [1, after])
                            else:
                                self.check_refused(board, TooNear, {"one": pair[0], "other": pair[1]}, board.add, mask)

    def test_flip(self):
        for kind in APART:
            for width in WIDTHS:
                even = tuple(x for x in range(2 ** width) if bin(x).count("1") % 2 == 0)
                for masks in (even, even[1:], even[:1], ()):
                    board = kind((width, masks))
                    pair = near_pair(rest_of(board.lot))
                    with self.subTest(kind=kind, masks=masks):
                        if pair is None:
                            wanted = rest_of(board.lot)
                            self.assertEqual([board.flip(), board.lot], [1, wanted])
                        else:
                            self.check_refused(board, TooNear, {"one": pair[0], "other": pair[1]}, board.flip)

    def test_drop_and_turn_never_bring_masks_near(self):
        for kind in APART:
            for width in WIDTHS:
                board = kind((width, tuple(x for x in range(2 ** width) if bin(x).count("1") % 2 == 0)))
                version = 0
                for mask in range(0, 2 ** width, 2 ** width // 2):
                    version += 1
                    self.assertEqual(board.turn(mask), version)
                for mask in board.lot[1]:
                    version += 1
                    self.assertEqual(board.drop(mask), version)

    def test_own_errors_come_first(self):
        for kind in APART:
            board = kind((2, (0, 3)))
            for value in (4, -1, True, None, "1", *odd_values()):
                for method in (board.add, board.drop, board.turn):
                    self.check_refused(board, NoMask, {"value": value}, method, value)
            self.check_refused(board, Present, {"mask": 0}, board.add, 0)
            self.check_refused(board, Missing, {"mask": 1}, board.drop, 1)
            self.check_refused(board, TooNear, {"one": 0, "other": 1}, board.add, 1)
            for number in range(60):
                board.turn(0)
            self.check_refused(board, TooManyEdits, {}, board.add, 1)
            one = kind((2, (0,)))
            for number in range(60):
                one.turn(0)
            self.check_refused(one, TooManyEdits, {}, one.flip)

    def test_within_run(self):
        for kind in APART:
            board = kind((3, (0,)))
            # The second edit would take the near mask away.
            self.check_refused(board, Rejected, {"index": 0}, board.run, [("add", 1), ("drop", 0)])
            self.check_refused(board, Rejected, {"index": 1}, board.run, [("add", 3), ("add", 1), ("drop", 1)])
            self.check_refused(board, Rejected, {"index": 2}, board.run, [("add", 3), ("add", 5), ("flip",), ("flip",)])
            self.assertEqual(board.run([("add", 3), ("drop", 0), ("add", 0)]), 3)
            with self.assertRaises(Rejected) as caught:
                board.run([("add", 4)])
            self.assertIs(type(caught.exception.__cause__), TooNear)

    def test_other_boards_take_near_masks(self):
        for kind in (Board, LoggedBoard):
            board = kind((2, (0, 1)))
            self.assertEqual([board.add(2), board.flip(), board.flip(), board.run([("add", 3)])], [1, 2, 3, 4])

    def test_undo_and_copy(self):
        for kind in APART:
            board = kind((3, (0, 3)))
            board.drop(0)
            board.add(0)
            board.turn(7)
            board.turn(1)
            twin = board.copy()
            self.assertEqual(told_with_log(twin), told_with_log(board))
            self.assertEqual([twin.undo() for number in range(4)], [3, 2, 1, 0])
            self.assertEqual([board.undo() for number in range(4)], [3, 2, 1, 0])
            self.assertEqual((twin.lot, board.lot), ((3, (0, 3)), (3, (0, 3))))
            self.check_refused(twin, TooNear, {"one": 0, "other": 1}, twin.add, 1)

    def test_smallest_pair(self):
        self.check_near((0, 1), ApartBoard, full_lot(6))
        self.check_near((2, 6), ApartBoard, (3, (2, 4, 6, 7)))
        self.check_near((1, 33), ApartBoard, (6, (1, 2, 33, 34)))
        self.check_near((1, 5), ApartBoard, (3, (1, 4, 5)))


class LoggedTest(BoardCase):

    def test_one_row_for_each_call(self):
        for kind in LOGGED:
            board = kind((3, (0,)))
            rows = []
            calls = [("add", 3), ("turn", 1), ("drop", 1), ("undo",), ("undo",), ("run", [("turn", 1), ("turn", 2)]), ("run", ()),
                     ("undo",), ("run", []), ("turn", 0), ("run", (("drop", 1),))]
            for name, *args in calls:
                self.assertEqual(repr(board.log), repr(tuple(rows)))
                rows.append((name, getattr(board, name)(*args)))
            self.assertEqual(repr(board.log), repr(tuple(rows)))
            self.assertEqual(board.log[-1], ("run", 4))

    def test_flip(self):
        board = LoggedBoard((2, (0,)))
        self.assertEqual([board.flip(), board.log], [1, (("flip", 1),)])
        board = LoggedApartBoard((2, (0, 3)))
        self.assertEqual([board.flip(), board.log], [1, (("flip", 1),)])

    def test_no_row_for_a_call_that_raises(self):
        for kind in LOGGED:
            board = kind((2, (0,)))
            self.check_refused(board, NothingToUndo, {}, board.undo)
            board.turn(1)
            log = board.log
            self.check_refused(board, NoMask, {"value": 4}, board.add, 4)
            self.check_refused(board, Present, {"mask": 1}, board.add, 1)
            self.check_refused(board, Missing, {"mask": 0}, board.drop, 0)
            self.check_refused(board, BadEdits, {}, board.run, None)
            self.check_refused(board, BadEdit, {"index": 0}, board.run, [None])
            self.check_refused(board, Rejected, {"index": 1}, board.run, [("turn", 1), ("turn", 4)])

            def on_step(given):
                raise Odd()
            self.check_refused(board, Odd, {}, board.run, [("turn", 1)], on_step=on_step)
            self.assertEqual(repr(board.log), repr(log))

    def test_no_row_for_anything_else(self):
        for kind in LOGGED:
            board = kind((2, (0,)))
            board.look(1)
            board.mark = 2
            board.copy().turn(1)
            list(board.walk())
            self.assertRaises(NoMask, board.look, 4)
            self.assertEqual(board.log, ())

    def test_undo_takes_no_row_away(self):
        for kind in LOGGED:
            board = kind((2, (0,)))
            board.turn(1)
            board.undo()
            self.assertEqual(board.log, (("turn", 1), ("undo", 0)))

    def test_log_goes_on(self):
        for kind in LOGGED:
            board = kind((2, (0,)))
            for number in range(150):
                board.turn(1)
                board.undo()
            self.assertEqual(board.log, (("turn", 1), ("undo", 0)) * 150)

    def test_copy(self):
        for kind in LOGGED:
            board = kind((3, (0,)))
            board.add(3)
            board.run([("turn", 1)])
            board.undo()
            twin = board.copy()
            log = (("add", 1), ("run", 2), ("undo", 1))
            self.assertEqual((board.log, twin.log), (log, log))
            twin.undo()
            board.turn(1)
            self.assertEqual((board.log, twin.log), ((*log, ("turn", 2)), (*log, ("undo", 0))))

    def test_log_cannot_be_assigned(self):
        for kind in LOGGED:
            board = kind((2, (0,)))
            board.turn(1)
            for value in ((), None, board.log):
                self.assertRaises(AttributeError, setattr, board, "log", value)
            self.assertEqual(board.log, (("turn", 1),))

    def test_a_log_that_was_read_stays(self):
        board = LoggedBoard((2, (0,)))
        log = board.log
        board.flip()
        self.assertEqual((log, board.log), ((), (("flip", 1),)))

    def test_other_boards_have_no_log(self):
        for kind in KINDS:
            self.assertEqual(hasattr(kind((2, (0,))), "log"), kind in LOGGED)


class BothTest(BoardCase):

    def test_errors_and_rows(self):
        board = LoggedApartBoard((2, (0,)))
        self.check_refused(board, TooNear, {"one": 0, "other": 1}, board.add, 1)
        self.check_refused(board, TooNear, {"one": 1, "other": 3}, board.flip)
        self.check_refused(board, Rejected, {"index": 1}, board.run, [("add", 3), ("add", 2)])
        self.assertEqual([board.add(3), board.flip(), board.run([("drop", 1)]), board.undo()], [1, 2, 3, 2])
        self.assertEqual(board.log, (("add", 1), ("flip", 2), ("run", 3), ("undo", 2)))
        twin = board.copy()
        self.assertIs(type(twin), LoggedApartBoard)
        self.check_refused(twin, TooNear, {"one": 0, "other": 1}, twin.add, 0)
        self.assertEqual(twin.log, board.log)


if __name__ == "__main__":
    unittest.main()
