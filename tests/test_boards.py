"""Boards: what holds for each of the four classes, without runs."""

import inspect
import unittest

from tests.cases import KINDS, BoardCase, told, told_with_log
from tests.samples import WIDTHS, full_lot, lots_of, odd_values, sample_lots
from xorturns.boards import ApartBoard, Board, LoggedApartBoard, LoggedBoard
from xorturns.bounds import MAX_EDITS
from xorturns.errors import (
    BadLot, BadText, Missing, NoIndex, NoMask, NothingToUndo, NoVersion, Present, TooManyEdits)
from xorturns.lots import lot_error, rest_of, turned
from xorturns.masksets import MaskSet
from xorturns.texts import lot_text
from xorturns.turns import keepers

GREAT = 10 ** 40 - 1
READ_ONLY = ("lot", "size", "version", "kept")


def edited_board(kind):
    """A board with some edits in effect that every kind allows, and a mark."""
    board = kind((3, (0,)))
    board.add(3)
    board.turn(5)
    board.drop(5)
    board.add(3)
    board.mark = 5
    return board


def full_board(kind):
    """A board with as many edits in effect as possible."""
    board = kind((2, (0,)))
    for number in range(60):
        board.turn(number % 4)
    return board


class InterfaceTest(unittest.TestCase):

    def test_classes(self):
        self.assertEqual(ApartBoard.__bases__, (Board,))
        self.assertEqual(LoggedBoard.__bases__, (Board,))
        self.assertEqual(LoggedApartBoard.__bases__, (LoggedBoard, ApartBoard))

    def test_methods_stand_in_the_class(self):
        parameters = {
            "__init__": "(self, lot)", "look": "(self, value)", "add": "(self, mask)", "drop": "(self, mask)",
            "flip": "(self)", "turn": "(self, mask)", "undo": "(self)", "run": "(self, edits, *, on_step=None)",
            "lot_at": "(self, version)", "edits": "(self)", "walk": "(self)", "as_set": "(self)", "copy": "(self)",
        }
        for name, wanted in parameters.items():
            self.assertEqual(str(inspect.signature(vars(Board)[name])), wanted)
        for name in ("__contains__", "__getitem__", "__len__", "__str__", "__eq__"):
            self.assertIn(name, vars(Board))
        for name in (*READ_ONLY, "mark"):
            self.assertIsInstance(vars(Board)[name], property)
        self.assertIsInstance(vars(LoggedBoard)["log"], property)
        self.assertIsInstance(vars(Board)["read"], classmethod)
        self.assertIsInstance(vars(Board)["is_edit"], staticmethod)
        self.assertEqual(str(inspect.signature(Board.read)), "(text)")
        self.assertEqual(str(inspect.signature(Board.is_edit)), "(value)")
        self.assertTrue(inspect.isgeneratorfunction(Board.walk))
        for kind in KINDS:
            self.assertIn("__init__", vars(kind))

    def test_class_values(self):
        for kind in KINDS:
            self.assertEqual(repr((kind.MOST_EDITS, kind.NAMES)), "(60, ('add', 'drop', 'flip', 'turn'))")
            self.assertEqual(kind.MOST_EDITS, MAX_EDITS)
            self.assertEqual(kind((2, (0,))).NAMES, kind.NAMES)


class ExamplesTest(BoardCase):

    def test_made(self):
        self.assertEqual(str(Board((2, (0, 3)))), "2 masks, 0 edits")

    def test_read(self):
        values = [Board.read("lot 2 0 3").lot, Board.is_edit(("add", None)), Board.is_edit(("flip", 1))]
        self.assertEqual(repr(values), "[(2, (0, 3)), True, False]")

    def test_properties(self):
        board = Board((2, (0,)))
        values = [board.look(3), board.add(3), board.kept, board.size, board.lot]
        self.assertEqual(repr(values), "[False, 1, True, 2, (2, (0, 3))]")

    def test_look(self):
        board = Board((2, (0,)))
        self.check_refused(board, NoMask, {"value": 4}, board.look, 4)

    def test_edits(self):
        board = Board((2, (0,)))
        values = [board.add(1), board.turn(3), board.flip(), board.drop(0), board.lot]
        self.assertEqual(repr(values), "[1, 2, 3, 4, (2, (1,))]")

    def test_undo(self):
        board = Board((2, (0,)))
        self.assertEqual(repr([board.flip(), board.undo(), board.lot]), "[1, 0, (2, (0,))]")

    def test_queries(self):
        board = Board((2, (0,)))
        values = [board.add(1), board.lot_at(0), board.edits(), list(board.walk()), board.as_set().masks]
        self.assertEqual(repr(values), "[1, (2, (0,)), (('add', 1),), [(0, (2, (0,))), (1, (2, (0, 1)))], (0, 1)]")

    def test_operators(self):
        board = Board((2, (0, 3)))
        values = [3 in board, board[1], board == board.copy(), board == (2, (0, 3)), len(board)]
        self.assertEqual(repr(values), "[True, 3, True, False, 0]")


class MadeTest(BoardCase):

    def test_new_boards(self):
        for width in WIDTHS:
            for lot in ((width, ()), (width, (0,)), (width, (2 ** width - 1,))):
                for kind in KINDS:
                    board = kind(lot)
                    with self.subTest(lot=lot, kind=kind):
                        self.check_lot(board.lot, width, lot[1])
                        self.assertEqual(repr([board.size, board.version, board.mark, board.kept]),
                                         repr([len(lot[1]), 0, None, None]))
                        self.assertEqual(repr([board.edits(), list(board.walk())]), repr([(), [(0, lot)]]))

    def test_lots_of_each_width(self):
        for width in WIDTHS:
            for lot in sample_lots(width):
                for kind in (Board, LoggedBoard):
                    self.check_lot(kind(lot).lot, width, lot[1])
                    self.assertEqual(str(kind(lot)), f"{len(lot[1])} masks, 0 edits")

    def test_no_lots(self):
        values = [*odd_values(), 0, GREAT, (7, (0, 1)), (2, (0, 1, 1)), (2, (0, 4)), (2, (0, True)), (2, [0, 1]),
                  MaskSet((2, (0,))), Board((2, (0,)))]
        for value in values:
            before = repr(value)
            for kind in KINDS:
                with self.subTest(kind=kind, value=value):
                    with self.assertRaises(BadLot) as caught:
                        kind(value)
                    self.assertEqual(repr(caught.exception.error), repr(lot_error(value)))
                    self.assertEqual(repr(value), before)

    def test_read(self):
        for width in WIDTHS:
            for lot in sample_lots(width):
                self.check_lot(Board.read(lot_text(lot)).lot, width, lot[1])
        for kind in KINDS:
            board = kind.read("lot 3 0 3")
            self.assertIs(type(board), kind)
            self.assertEqual(told_with_log(board), told_with_log(kind((3, (0, 3)))))

    def test_read_of_no_lots(self):
        values = {None: [5, None, ("lot", 2), ["lot 2"], {}, (2, (0,))], 0: ["", " lot 2", "Lot 2"], 1: ["lot", "lot 7"],
                  2: ["lot 2 ", "lot 2 4", "lot 2 00"], 3: ["lot 2 0 0", "lot 2 1 0", "lot 2 0 1\n"]}
        for index, several in values.items():
            for value in several:
                for kind in KINDS:
                    with self.subTest(kind=kind, value=value):
                        self.check_raises(BadText, "index", index, kind.read, value)

    def test_is_edit(self):
        right = [("flip",)]
        for value in (0, -1, GREAT, *odd_values(), MaskSet((2, (0,)))):
            right += [("add", value), ("drop", value), ("turn", value)]
        wrong = [value for value in odd_values() if value != ("turn", 1)]
        wrong += [0, 5, GREAT, "flip", "add", ["flip"], ["add", 1], ("flip", None), ("flip", ()), ("flip", 1, 2),
                 ("add",), ("drop",), ("turn",), ("add", 1, 2), ("drop", 1, 1), ("turn", 1, None), ("undo",), ("run", ()),
                 ("look", 1), ("copy",), ("Add", 1), ("add ", 1), ("", 1), (None, 1), (("add",), 1), (["add"], 1),
                 ({"add": 1}, 1), (True, 1), (1, "add"), ("read", "lot 2"), ("mark", 1), (MaskSet((2, ())), 1),
                 {"add": 1}, (("flip",),), ("edits",), ("__len__",), MaskSet((2, (0,))), Board((2, (0,)))]
        for kind in KINDS:
            for asked in (kind, kind((2, (0,)))):
                for value in right:
                    self.assertIs(self.called(asked.is_edit, value), True)
                for value in wrong:
                    self.assertIs(self.called(asked.is_edit, value), False, value)

    def test_not_iterated(self):
        for kind in KINDS:
            for lot in ((2, ()), (2, (0, 3))):
                self.assertRaises(TypeError, iter, kind(lot))
                self.assertRaises(TypeError, list, kind(lot))


class EditsTest(BoardCase):

    def test_each_edit(self):
        for width in WIDTHS:
            for lot in sample_lots(width)[::7]:
                for mask in range(0, 2 ** width, max(1, 2 ** width // 9)):
                    board = Board(lot)
                    held = mask in lot[1]
                    changed = tuple(sorted(set(lot[1]) ^ {mask}))
                    name = "drop" if held else "add"
                    with self.subTest(lot=lot, mask=mask):
                        self.assertEqual(repr((board.drop if held else board.add)(mask)), "1")
                        self.check_lot(board.lot, width, changed)
                        self.assertEqual(repr(board.turn(mask)), "2")
                        self.check_lot(board.lot, width, [x ^ mask for x in changed])
                        self.assertEqual(repr(board.flip()), "3")
                        self.assertEqual(board.lot, rest_of(turned((width, changed), mask)))
                        self.assertEqual(repr(board.edits()), repr(((name, mask), ("turn", mask), ("flip",))))
                        self.assertEqual([board.undo(), board.undo(), board.undo()], [2, 1, 0])
                        self.assertEqual(told(board), told(Board(lot)))

    def test_everything_after_each_step(self):
        board = Board((2, (0,)))
        board.mark = 3
        steps = [
            (lambda: board.add(3), 1, (0, 3), True, (("add", 3),)),
            (lambda: board.turn(1), 2, (1, 2), True, (("add", 3), ("turn", 1))),
            (lambda: board.drop(2), 3, (1,), False, (("add", 3), ("turn", 1), ("drop", 2))),
            (lambda: board.undo(), 2, (1, 2), True, (("add", 3), ("turn", 1))),
            (lambda: board.flip(), 3, (0, 3), True, (("add", 3), ("turn", 1), ("flip",))),
            (lambda: board.drop(0), 4, (3,), False, (("add", 3), ("turn", 1), ("flip",), ("drop", 0))),
            (lambda: board.drop(3), 5, (), True, (("add", 3), ("turn", 1), ("flip",), ("drop", 0), ("drop", 3))),
        ]
        for step, version, masks, kept, edits in steps:
            self.assertEqual(repr(step()), repr(version))
            self.assertEqual(repr([board.lot, board.size, board.version, board.mark, board.kept, board.edits()]),
                             repr([(2, masks), len(masks), version, 3, kept, edits]))
            self.assertEqual((str(board), len(board)), (f"{len(masks)} masks, {version} edits", version))
            self.assertEqual(board.lot_at(version), board.lot)

    def test_no_mask(self):
        for kind in KINDS:
            for width in (1, 2, 6):
                for board in (kind((width, ())), kind((width, (0,)))):
                    for value in (-1, 2 ** width, 2 ** width + 1, GREAT, -GREAT, *odd_values(), MaskSet((2, ()))):
                        for method in (board.add, board.drop, board.turn):
                            with self.subTest(kind=kind, value=value):
                                self.check_refused(board, NoMask, {"value": value}, method, value)

    def test_bools_are_no_masks(self):
        board = Board((1, (0,)))
        for value in (True, False):
            for method in (board.add, board.drop, board.turn, board.look):
                self.check_refused(board, NoMask, {"value": value}, method, value)
            self.check_refused(board, NoMask, {"value": value}, setattr, board, "mark", value)
        self.assertIs(False in board, False)
        self.check_refused(board, NoIndex, {"value": False}, lambda at: board[at], False)
        self.check_refused(board, NoVersion, {"value": False}, board.lot_at, False)

    def test_present_and_missing(self):
        for width in WIDTHS:
            for lot in sample_lots(width)[::11]:
                for kind in (Board, LoggedBoard):
                    board = kind(lot)
                    for mask in range(2 ** width):
                        with self.subTest(kind=kind, lot=lot, mask=mask):
                            if mask in lot[1]:
                                self.check_refused(board, Present, {"mask": mask}, board.add, mask)
                            else:
                                self.check_refused(board, Missing, {"mask": mask}, board.drop, mask)

    def test_too_many_edits(self):
        for kind in KINDS:
            board = full_board(kind)
            self.assertEqual(board.version, 60)
            for value in (0, 1, 4, -1, True, None, "0", (), board.lot[1][0]):
                for method in (board.add, board.drop, board.turn):
                    self.check_refused(board, TooManyEdits, {}, method, value)
            self.check_refused(board, TooManyEdits, {}, board.flip)
            self.assertEqual(board.undo(), 59)
            self.check_refused(board, NoMask, {"value": 4}, board.turn, 4)
            self.assertEqual(board.turn(1), 60)
            self.check_refused(board, TooManyEdits, {}, board.flip)
            self.assertEqual([board.undo() for number in range(60)], list(range(59, -1, -1)))
            self.assertEqual(board.lot, (2, (0,)))

    def test_nothing_to_undo(self):
        for kind in KINDS:
            board = kind((2, (0,)))
            self.check_refused(board, NothingToUndo, {}, board.undo)
            board.turn(1)
            board.undo()
            self.check_refused(board, NothingToUndo, {}, board.undo)

    def test_edits_after_undo(self):
        for kind in KINDS:
            board = kind((3, (0,)))
            self.assertEqual([board.add(3), board.turn(1), board.undo(), board.turn(4), board.add(1)], [1, 2, 1, 2, 3])
            self.assertEqual(board.edits(), (("add", 3), ("turn", 4), ("add", 1)))
            self.assertEqual(list(board.walk()), [(0, (3, (0,))), (1, (3, (0, 3))), (2, (3, (4, 7))), (3, (3, (1, 4, 7)))])


class MarkTest(BoardCase):

    def test_masks_and_none(self):
        for kind in KINDS:
            for width in WIDTHS:
                board = kind((width, (0,)))
                for value in (*range(2 ** width), None):
                    board.mark = value
                    wanted = None if value is None else value == 0
                    self.assertEqual(repr([board.mark, board.kept, board.look(value)]), repr([value, wanted, wanted]))
                    self.assertEqual(board.version, 0)

    def test_kept(self):
        for width in WIDTHS:
            for lot in sample_lots(width)[::3]:
                board = Board(lot)
                for mask in range(2 ** width):
                    self.assertIs(board.look(mask), mask in keepers(lot))
                    self.assertIs(board.kept, mask in keepers(lot))
                    self.assertEqual(board.mark, mask)

    def test_values_of_all_kinds(self):
        for kind in KINDS:
            for before in (None, 1):
                board = kind((2, (0, 3)))
                board.turn(1)
                board.mark = before
                for value in (-1, 4, 5, GREAT, *odd_values(), MaskSet((2, (0,)))):
                    if value is not None:
                        with self.subTest(kind=kind, value=value):
                            self.check_refused(board, NoMask, {"value": value}, board.look, value)
                            self.check_refused(board, NoMask, {"value": value}, setattr, board, "mark", value)

    def test_mark_is_no_edit(self):
        for kind in KINDS:
            board = kind((2, (0,)))
            board.turn(1)
            board.mark = 2
            self.assertEqual((board.version, board.edits()), (1, (("turn", 1),)))
            board.undo()
            self.assertEqual(board.mark, 2)
            board.look(None)
            self.assertEqual((board.mark, board.kept, board.version), (None, None, 0))

    def test_mark_with_all_edits_in_effect(self):
        for kind in KINDS:
            board = full_board(kind)
            self.assertIs(board.look(0), True)
            board.mark = 3
            self.assertIs(board.kept, False)

    def test_the_others_cannot_be_assigned(self):
        for kind in KINDS:
            board = edited_board(kind)
            before = told_with_log(board)
            for name in READ_ONLY:
                for value in (getattr(board, name), (3, ()), 0, None):
                    self.assertRaises(AttributeError, setattr, board, name, value)
            self.assertEqual(told_with_log(board), before)


class QueriesTest(BoardCase):

    def test_lot_at(self):
        for kind in KINDS:
            board = edited_board(kind)
            lots = [(3, (0,)), (3, (0, 3)), (3, (5, 6)), (3, (6,)), (3, (3, 6))]
            self.assertEqual(repr([self.called(board.lot_at, version) for version in range(5)]), repr(lots))
            for value in (-1, 5, 6, GREAT, -GREAT, *odd_values(), MaskSet((2, (0,)))):
                with self.subTest(kind=kind, value=value):
                    self.check_refused(board, NoVersion, {"value": value}, board.lot_at, value)
            board.undo()
            self.check_refused(board, NoVersion, {"value": 4}, board.lot_at, 4)

    def test_edits(self):
        for kind in KINDS:
            wanted = (("add", 3), ("turn", 5), ("drop", 5), ("add", 3))
            self.check_call(wanted, edited_board(kind).edits)
            for edit in wanted:
                self.assertIs(Board.is_edit(edit), True)

    def test_walk(self):
        for kind in KINDS:
            board = edited_board(kind)
            wanted = [(0, (3, (0,))), (1, (3, (0, 3))), (2, (3, (5, 6))), (3, (3, (6,))), (4, (3, (3, 6)))]
            before = told_with_log(board)
            self.assertTrue(inspect.isgenerator(board.walk()))
            self.assertEqual(repr(list(board.walk())), repr(wanted))
            self.assertEqual(repr(list(board.walk())), repr(wanted))
            left = board.walk()
            self.assertEqual([next(left), next(left)], wanted[:2])
            left.close()
            one, other = board.walk(), board.walk()
            self.assertEqual([next(one), next(other), next(one), next(other)], [wanted[0], wanted[0], *wanted[1:2] * 2])
            self.assertEqual(list(one), wanted[2:])
            self.assertEqual(told_with_log(board), before)
            self.assertEqual(board.undo(), 3)
            self.assertEqual(list(board.walk()), wanted[:4])

    def test_as_set(self):
        for kind in KINDS:
            board = edited_board(kind)
            made = board.as_set()
            self.assertIs(type(made), MaskSet)
            self.assertEqual(made.lot, (3, (3, 6)))
            board.drop(3)
            self.assertEqual((made.lot, board.as_set().lot), ((3, (3, 6)), (3, (6,))))

    def test_contained_and_indexes(self):
        for kind in KINDS:
            board = edited_board(kind)
            self.assertEqual([x for x in range(-9, 70) if x in board], [3, 6])
            self.assertEqual(repr([board[0], board[1]]), "[3, 6]")
            for value in (-1, -2, 2, 8, GREAT, *odd_values(), MaskSet((2, (0,)))):
                with self.subTest(kind=kind, value=value):
                    self.assertIs(value in board, False)
                    self.check_refused(board, NoIndex, {"value": value}, lambda at: board[at], value)
            board.undo()
            self.assertIs(3 in board, False)
            self.check_refused(board, NoIndex, {"value": 1}, lambda at: board[at], 1)

    def test_contained_beside_sets(self):
        for width in WIDTHS:
            for lot in sample_lots(width)[::5]:
                board = Board(lot)
                for x in range(-1, 2 ** width + 1):
                    self.assertIs(x in board, x in MaskSet(lot))
                self.assertEqual([board[index] for index in range(board.size)], list(lot[1]))

    def test_text_and_number(self):
        for kind in KINDS:
            board = kind((2, ()))
            self.assertEqual((str(board), len(board)), ("0 masks, 0 edits", 0))
            board.add(2)
            self.assertEqual((str(board), len(board)), ("1 masks, 1 edits", 1))
            self.assertEqual((str(full_board(kind)), len(full_board(kind))), ("1 masks, 60 edits", 60))
        self.assertEqual(str(Board(full_lot(6))), "64 masks, 0 edits")


class CopyTest(BoardCase):

    def test_copy_tells_the_same(self):
        for kind in KINDS:
            for board in (kind((2, ())), edited_board(kind), full_board(kind)):
                before = told_with_log(board)
                twin = board.copy()
                self.assertIs(type(twin), kind)
                self.assertIsNot(twin, board)
                self.assertEqual((told_with_log(twin), told_with_log(board)), (before, before))
                self.assertIs(twin == board, True)

    def test_copy_can_undo(self):
        for kind in KINDS:
            board = edited_board(kind)
            twin = board.copy()
            before = told_with_log(board)
            lots = []
            while twin.version:
                twin.undo()
                lots.append(twin.lot)
            self.assertEqual(lots, [(3, (6,)), (3, (5, 6)), (3, (0, 3)), (3, (0,))])
            self.assertEqual(told_with_log(board), before)

    def test_both_are_edited(self):
        for kind in KINDS:
            board = edited_board(kind)
            twin = board.copy()
            self.assertEqual([board.drop(3), twin.turn(3), twin.turn(2), board.undo(), board.undo()], [5, 5, 6, 4, 3])
            self.assertEqual((board.lot, twin.lot), ((3, (6,)), (3, (2, 7))))
            self.assertEqual(twin.edits(), (("add", 3), ("turn", 5), ("drop", 5), ("add", 3), ("turn", 3), ("turn", 2)))
            self.assertEqual(board.edits(), (("add", 3), ("turn", 5), ("drop", 5)))
            twin.mark = 0
            self.assertEqual((board.mark, twin.mark), (5, 0))
            board.mark = None
            self.assertEqual((board.mark, twin.mark), (None, 0))

    def test_copy_of_a_copy(self):
        for kind in KINDS:
            board = edited_board(kind)
            self.assertEqual(told_with_log(board.copy().copy()), told_with_log(board))

    def test_copy_has_the_same_bound(self):
        for kind in KINDS:
            twin = full_board(kind).copy()
            self.check_refused(twin, TooManyEdits, {}, twin.flip)


class EqualTest(BoardCase):

    def test_between_all_classes(self):
        for one in KINDS:
            for other in KINDS:
                with self.subTest(one=one, other=other):
                    first, second = edited_board(one), other((3, (3, 6)))
                    self.assertIs(first == second, True)
                    self.assertIs(second == first, True)
                    self.assertIs(first != second, False)
                    second.mark = 1
                    self.assertIs(first == second, True)
                    second.turn(1)
                    self.assertIs(first == second, False)
                    self.assertIs(first != second, True)
                    second.undo()
                    self.assertIs(first == second, True)
                    self.assertIs(one((2, ())) == other((3, ())), False)

    def test_all_small_lots(self):
        for one in lots_of(2):
            for other in lots_of(2):
                self.assertIs(Board(one) == LoggedBoard(other), one == other)

    def test_values_of_all_other_kinds(self):
        for kind in KINDS:
            board = edited_board(kind)
            for value in (0, 4, GREAT, *odd_values(), board.lot, board.as_set(), board.edits(), str(board), repr(board)):
                with self.subTest(kind=kind, value=value):
                    self.assertIs(board == value, False)
                    self.assertIs(value == board, False)
                    self.assertIs(board != value, True)


if __name__ == "__main__":
    unittest.main()
