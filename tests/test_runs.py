"""Runs of boards, each of the four classes."""

import unittest

from tests.cases import KINDS, LOGGED, BoardCase, told, told_with_log
from tests.samples import odd_values
from xorturns.boards import Board, LoggedBoard
from xorturns.bounds import BATCH
from xorturns.consoles import Console
from xorturns.errors import (
    BadEdit, BadEdits, Busy, Missing, NoIndex, NoMask, NoVersion, Present, Rejected, TooManyEdits, TooNear, TurnError)
from xorturns.masksets import MaskSet

# Edits of a board with the lot (3, (0,)) that every kind allows, with the masks after each of them.
STEPS = (
    (("add", 3), (0, 3)), (("turn", 1), (1, 2)), (("drop", 2), (1,)), (("add", 7), (1, 7)), (("turn", 7), (0, 6)),
    (("drop", 0), (6,)))
EDITS = [edit for edit, masks in STEPS]


class Odd(Exception):
    """An exception that the package does not know."""


class Last(BaseException):
    """An exception that is no Exception."""


def started(kind):
    """A board with one edit in effect, a mark and, if it logs, two rows."""
    board = kind((3, (4,)))
    board.turn(4)
    board.mark = 2
    board.run([])
    return board


def raising(error):
    def on_step(board):
        raise error
    return on_step


class ExamplesTest(BoardCase):

    def test_rejected(self):
        board = Board((2, (0,)))
        self.check_refused(board, Rejected, {"index": 1}, board.run, [("add", 1), ("add", 0)])

    def test_logged(self):
        board = LoggedBoard((2, (0,)))
        values = [board.run([("add", 1), ("flip",)]), board.undo(), board.log]
        self.assertEqual(repr(values), "[2, 1, (('run', 2), ('undo', 1))]")


class RunTest(BoardCase):

    def test_beside_single_edits(self):
        for kind in KINDS:
            for edits in (EDITS, tuple(EDITS), EDITS[:1], EDITS[:3]):
                one, other = started(kind), started(kind)
                passed = repr(edits)
                self.assertEqual(repr(one.run(edits)), repr(1 + len(edits)))
                for edit in edits:
                    getattr(other, edit[0])(*edit[1:])
                self.assertEqual(told(one), told(other))
                self.assertEqual(repr(edits), passed)

    def test_each_edit_can_be_undone_by_itself(self):
        for kind in KINDS:
            board = started(kind)
            board.run(EDITS)
            for number in range(len(STEPS), 0, -1):
                self.assertEqual(board.lot, (3, STEPS[number - 1][1]))
                self.assertEqual(board.undo(), number)
            self.assertEqual(told(board), told(started(kind)))

    def test_no_edits(self):
        for kind in KINDS:
            for edits in ([], ()):
                board = started(kind)
                before = told(board)
                self.assertEqual(repr([board.run(edits), board.run(edits, on_step=raising(Odd()))]), "[1, 1]")
                self.assertEqual(told(board), before)

    def test_no_edits_with_all_edits_in_effect(self):
        board = Board((2, (0,)))
        for number in range(3):
            board.run([("turn", 1)] * 20)
        self.assertEqual((board.version, board.run([])), (60, 60))

    def test_twenty_and_more(self):
        self.assertEqual(BATCH, 20)
        for kind in KINDS:
            board = started(kind)
            for edits in ([("turn", 1)] * 21, (("turn", 1),) * 21, [None] * 21, [("turn", 9)] * 21, tuple(range(500))):
                self.check_refused(board, BadEdits, {}, board.run, edits)
            self.assertEqual(board.run([("turn", 1)] * 20), 21)
            self.assertEqual(board.run((("turn", 1),) * 20), 41)

    def test_no_lists_or_tuples(self):
        values = [value for value in odd_values() if not isinstance(value, (list, tuple))]
        values += [0, 1, -1, 10 ** 40 - 1, "flip", {"flip": ()}, {"add": 1}, MaskSet((2, (0,)))]
        for kind in KINDS:
            board = started(kind)
            for value in values:
                with self.subTest(kind=kind, value=value):
                    self.check_refused(board, BadEdits, {}, board.run, value)
                    self.check_refused(board, BadEdits, {}, board.run, value, on_step=raising(Odd()))

    def test_items_that_are_no_edits(self):
        values = [value for value in odd_values() if value != ("turn", 1)]
        values += [0, -1, ("flip", 1), ("add",), ("undo",), ["flip"], ["turn", 1], ("run", []), (None, 1), ("add", 1, 2)]
        for kind in KINDS:
            board = started(kind)
            for value in values:
                for index in (0, 1, 2, 19):
                    edits = [("turn", 1)] * index + [value] + [None] * min(1, 19 - index)
                    with self.subTest(kind=kind, value=value, index=index):
                        self.check_refused(board, BadEdit, {"index": index}, board.run, edits)
            self.check_refused(board, BadEdit, {"index": 1}, board.run, (("add", 9), "flip"), on_step=raising(Odd()))

    def test_edits_that_fail_at_each_place(self):
        failing = [("add", 0), ("drop", 1), ("add", 8), ("add", -1), ("drop", 64), ("turn", 8), ("turn", True)]
        failing += [(name, value) for name in ("add", "drop", "turn") for value in odd_values()]
        for kind in KINDS:
            for edit in failing:
                for index in (0, 1, 2, 19):
                    board = started(kind)
                    edits = [("turn", 3), ("turn", 3)] * 10
                    edits = edits[:index] if index % 2 == 0 else [("turn", 0)] + edits[:index - 1]
                    edits = (edits + [edit, ("flip",)])[:20]
                    with self.subTest(kind=kind, edit=edit, index=index):
                        self.check_refused(board, Rejected, {"index": index}, board.run, edits)

    def test_the_reason_is_told(self):
        board = Board((3, (0,)))
        for edit, wanted in ((("add", 0), Present), (("drop", 1), Missing), (("turn", 8), NoMask)):
            with self.assertRaises(Rejected) as caught:
                board.run([edit])
            self.assertIs(type(caught.exception.__cause__), wanted)

    def test_too_many_edits(self):
        for kind in KINDS:
            board = kind((2, (0,)))
            for many in (20, 20, 13):
                board.run([("turn", 1)] * many)
            self.assertEqual(board.version, 53)
            self.check_refused(board, Rejected, {"index": 7}, board.run, [("turn", 1)] * 8)
            self.check_refused(board, Rejected, {"index": 7}, board.run, [("turn", 1)] * 20)
            self.check_refused(board, Rejected, {"index": 7}, board.run, [("turn", 1)] * 7 + [("add", None)])
            self.assertEqual(board.run([("turn", 1)] * 7), 60)
            self.check_refused(board, Rejected, {"index": 0}, board.run, [("flip",)])
            self.check_refused(board, BadEdit, {"index": 0}, board.run, [("flip", 1)])
            self.assertEqual(board.run(()), 60)

    def test_parameters(self):
        board = Board((2, (0,)))
        self.assertRaises(TypeError, board.run, [("flip",)], print)
        self.assertRaises(TypeError, board.run)
        self.assertEqual(board.run([("flip",)], on_step=None), 1)

    def test_runs_may_follow_each_other(self):
        for kind in KINDS:
            board = started(kind)
            self.assertRaises(Rejected, board.run, [("turn", 1), ("add", 9)])
            self.assertRaises(Odd, board.run, [("turn", 1)], on_step=raising(Odd()))
            self.assertEqual([board.run(EDITS), board.turn(1), board.undo(), board.undo()], [7, 8, 7, 6])


class OnStepTest(BoardCase):

    def test_reads_everything(self):
        for kind in KINDS:
            board, beside = started(kind), started(kind)
            seen, wanted = [], []
            result = board.run(EDITS, on_step=lambda given: seen.append((given is board, told(given))) or "not used")
            self.assertEqual(repr(result), "7")
            for edit in EDITS:
                getattr(beside, edit[0])(*edit[1:])
                wanted.append((True, told(beside)))
            self.assertEqual(seen, wanted)

    def test_errors_of_queries(self):
        for kind in KINDS:
            board = started(kind)

            def on_step(given):
                self.check_refused(given, NoVersion, {"value": 5}, given.lot_at, 5)
                self.check_refused(given, NoIndex, {"value": 9}, lambda at: given[at], 9)
                self.check_refused(given, NoMask, {"value": 8}, given.look, 8)
                self.assertRaises(TypeError, iter, given)
                self.assertIs(given == kind(given.lot), True)
            self.assertEqual(board.run(EDITS[:2], on_step=on_step), 3)

    def test_assigns_mark_and_looks(self):
        for kind in KINDS:
            board = started(kind)
            seen = []

            def on_step(given):
                seen.append((given.mark, given.look(3), given.mark))
                given.mark = given.version
            self.assertEqual(board.run(EDITS[:3], on_step=on_step), 4)
            self.assertEqual(seen, [(2, True, 3), (2, True, 3), (3, False, 3)])
            self.assertEqual(board.mark, 4)

    def test_mark_is_restored(self):
        def on_step(given):
            given.mark = 5

        def marking_and_raising(given):
            given.mark = None
            raise Odd()
        for kind in KINDS:
            board = started(kind)
            self.check_refused(board, Rejected, {"index": 2}, board.run, [*EDITS[:2], ("add", 9)], on_step=on_step)
            self.check_refused(board, Odd, {}, board.run, EDITS, on_step=marking_and_raising)
            self.assertEqual(board.mark, 2)
            board.mark = None
            self.check_refused(board, Rejected, {"index": 1}, board.run, [EDITS[0], ("add", 0)], on_step=on_step)
            self.assertIsNone(board.mark)
            board.run(EDITS[:1], on_step=on_step)
            self.assertEqual(board.mark, 5)

    def test_raises(self):
        errors = [Odd(), Last(), KeyboardInterrupt(), ValueError("a"), KeyError(1), StopIteration(), GeneratorExit(),
                  TurnError(), NoMask(1), Present(2), TooNear(0, 1), TooManyEdits(), Rejected(7), Busy(), BadEdits()]
        for kind in KINDS:
            for error in errors:
                for last in range(len(EDITS)):
                    board = started(kind)
                    before = told_with_log(board)
                    calls = []

                    def on_step(given):
                        calls.append(given.version)
                        given.mark = 1
                        if len(calls) > last:
                            raise error
                    with self.subTest(kind=kind, error=error, last=last):
                        with self.assertRaises(type(error)) as caught:
                            board.run(EDITS, on_step=on_step)
                        self.assertIs(caught.exception, error)
                        self.assertEqual(calls, list(range(2, last + 3)))
                        self.assertEqual(told_with_log(board), before)
                        self.assertEqual(board.turn(1), 2)

    def test_editing_is_refused(self):
        for kind in KINDS:
            board = started(kind)
            calls = [(board.flip,), (board.undo,), (board.run, []), (board.run, None), (board.run, [None] * 30),
                     (board.run, [("flip",)])]
            for value in (0, 1, 8, -1, True, None, "1", (), [0]):
                calls += [(board.add, value), (board.drop, value), (board.turn, value)]
            tried = []

            def on_step(given):
                for method, *args in calls:
                    self.check_refused(given, Busy, {}, method, *args)
                    tried.append(method)
            self.assertEqual(board.run(EDITS, on_step=on_step), 7)
            self.assertEqual(len(tried), len(calls) * len(EDITS))
            self.assertEqual(board.lot, (3, (6,)))

    def test_busy_before_too_many_edits_and_nothing_to_undo(self):
        for kind in KINDS:
            board = kind((2, (0,)))
            for many in (20, 20, 19):
                board.run([("turn", 1)] * many)

            def on_step(given):
                self.assertEqual(given.version, 60)
                for method, *args in ((given.flip,), (given.add, 4), (given.turn, 0), (given.run, [("flip",)])):
                    self.check_refused(given, Busy, {}, method, *args)
            self.assertEqual(board.run([("turn", 1)], on_step=on_step), 60)

    def test_busy_that_is_not_caught(self):
        for kind in KINDS:
            board = started(kind)
            for call in (lambda given: given.turn(0), lambda given: given.undo(), lambda given: given.run([])):
                self.check_refused(board, Busy, {}, board.run, EDITS, on_step=call)

    def test_free_again(self):
        for kind in KINDS:
            board = started(kind)
            board.run([("turn", 1)], on_step=lambda given: None)
            self.assertEqual([board.turn(1), board.undo(), board.run([("turn", 1)])], [3, 2, 3])
            self.assertRaises(Odd, board.run, [("turn", 1)], on_step=raising(Odd()))
            self.assertEqual([board.turn(1), board.undo(), board.run([])], [4, 3, 3])

    def test_copies_the_board(self):
        for kind in KINDS:
            board = started(kind)
            copies = []

            def on_step(given):
                twin = given.copy()
                self.assertEqual(told_with_log(twin), told_with_log(given))
                self.assertIs(type(twin), kind)
                version = twin.version
                self.assertEqual([twin.turn(3), twin.undo(), twin.run([("turn", 0)])], [version + 1, version, version + 1])
                self.assertEqual([twin.undo() for number in range(version + 1)], list(range(version, -1, -1)))
                self.assertEqual(twin.lot, (3, (4,)))
                twin.mark = 7
                copies.append(given.copy())
            self.assertEqual(board.run(EDITS, on_step=on_step), 7)
            for number, twin in enumerate(copies, 2):
                self.assertEqual((twin.version, twin.lot), (number, (3, STEPS[number - 2][1])))
                self.assertEqual(twin.edits(), (("turn", 4), *EDITS[:number - 1]))
                self.assertEqual(twin.mark, 2)
                self.assertEqual(twin.turn(0), number + 1)
            self.assertEqual(board.lot, (3, (6,)))

    def test_copies_of_a_run_that_fails(self):
        for kind in KINDS:
            board = started(kind)
            copies = []
            edits = [*EDITS[:2], ("add", 9)]
            self.assertRaises(Rejected, board.run, edits, on_step=lambda given: copies.append(given.copy()))
            self.assertEqual([twin.lot for twin in copies], [(3, (0, 3)), (3, (1, 2))])
            self.assertEqual([twin.undo() for twin in copies], [1, 2])
            self.assertEqual(board.lot, (3, (0,)))

    def test_changes_the_list_of_edits(self):
        for kind in KINDS:
            for change in (list.clear, list.pop, lambda edits: edits.append(("flip", 1)), list.reverse,
                           lambda edits: edits.insert(0, None)):
                board = started(kind)
                edits = list(EDITS)
                self.assertEqual(board.run(edits, on_step=lambda given: change(edits)), 7)
                self.assertEqual(board.edits(), (("turn", 4), *EDITS))
                edits.append(None)
                self.assertEqual(board.edits(), (("turn", 4), *EDITS))

    def test_another_board(self):
        for kind in KINDS:
            board, second = started(kind), started(kind)

            def inner(given):
                self.check_refused(board, Busy, {}, board.turn, 0)
                self.check_refused(second, Busy, {}, second.undo)
                self.assertIs(given, second)

            def outer(given):
                self.assertEqual([second.turn(1), second.undo()], [2, 1])
                self.assertEqual(second.run([("turn", 1), ("turn", 1)], on_step=inner), 3)
                self.assertEqual([second.undo(), second.undo()], [2, 1])
                self.assertRaises(Odd, second.run, [("turn", 1)], on_step=raising(Odd()))
                self.check_refused(board, Busy, {}, board.turn, 0)
            self.assertEqual(board.run(EDITS, on_step=outer), 7)
            self.assertEqual(second.lot, (3, (0,)))

    def test_walk(self):
        for kind in KINDS:
            board = started(kind)
            rows = []
            board.run(EDITS, on_step=lambda given: rows.append(list(given.walk())))
            self.assertEqual([len(several) for several in rows], [3, 4, 5, 6, 7, 8])
            self.assertEqual(rows[-1], list(board.walk()))

    def test_log(self):
        for kind in LOGGED:
            board = started(kind)
            logs = []
            board.run(EDITS, on_step=lambda given: logs.append(given.log))
            self.assertEqual(logs, [(("turn", 1), ("run", 1))] * 6)
            self.assertEqual(board.log, (("turn", 1), ("run", 1), ("run", 7)))

    def test_console(self):
        for kind in KINDS:
            board = started(kind)
            console = Console(board)
            answers = []

            def on_step(given):
                lines = ("add 1", "drop 9", "flip", "turn 0", "undo", "size", "lot", "look 1", "kept", "at 9")
                answers.append([console.execute(line) for line in lines])
            board.run(EDITS[:1], on_step=on_step)
            self.assertEqual(answers, [["error Busy"] * 5 + ["2", "lot 3 0 3", "no", "no", "error NoIndex"]])
            self.assertEqual(board.mark, 1)
            self.assertEqual(console.execute("undo"), "ok 1")


if __name__ == "__main__":
    unittest.main()
