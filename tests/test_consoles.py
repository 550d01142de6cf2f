import inspect
import unittest

from tests.cases import KINDS, LOGGED, BoardCase, told_with_log
from tests.samples import WIDTHS, odd_values, sample_lots
from xorturns.boards import ApartBoard, Board, LoggedBoard
from xorturns.consoles import Console
from xorturns.counts import pair_counts
from xorturns.masksets import MaskSet
from xorturns.texts import lot_text
from xorturns.turns import keepers

UNKNOWN = "unknown command"
WITH_NUMBER = ("add", "drop", "turn", "look", "at")
ALONE = ("flip", "undo", "lot", "size", "kept", "keepers", "pairs")
WRONG_NUMBERS = (
    "", "00", "01", "000", "007", "+1", "-1", "-0", "1000", "0000", "9999", "1_0", "1.0", "a", "1a", "\u0663", "\uff11",
    "\u00b2", "1\n", "\n1", "\t1", "1\t", "None", "True", "9" * 1990, "x" * 1990)


def wanted_call(board, line):
    """What the document says of a command, done by the board itself."""
    name, *args = line.split(" ")
    numbers = [int(word) for word in args]
    try:
        if name in ("add", "drop", "flip", "turn", "undo"):
            return f"ok {getattr(board, name)(*numbers)}"
        if name == "look":
            return {True: "yes", False: "no"}[board.look(*numbers)]
        if name == "at":
            return str(board[numbers[0]])
    except (ValueError, LookupError) as error:
        return "error " + type(error).__name__
    return {
        "lot": lot_text(board.lot), "size": str(board.size), "kept": {True: "yes", False: "no", None: "none"}[board.kept],
        "keepers": " ".join(map(str, keepers(board.lot))), "pairs": " ".join(map(str, pair_counts(board.lot))),
    }[name]


class InterfaceTest(unittest.TestCase):

    def test_methods_stand_in_the_class(self):
        self.assertEqual(str(inspect.signature(Console)), "(board)")
        self.assertEqual(str(inspect.signature(vars(Console)["execute"])), "(self, line)")
        self.assertIsInstance(vars(Console)["history"], property)


class ExamplesTest(unittest.TestCase):

    def test_execute(self):
        console = Console(Board((2, (0,))))
        lines = ("add 3", "look 3", "keepers", "pairs", "drop 1", "at 2", "add")
        self.assertEqual([console.execute(line) for line in lines],
                         ["ok 1", "yes", "0 3", "2 0 0 2", "error Missing", "error NoIndex", "unknown command"])

    def test_history(self):
        console = Console(Board((2, ())))
        values = [console.execute("lot"), console.execute(5), console.history]
        self.assertEqual(repr(values), "['lot 2', 'unknown command', (('lot', 'lot 2'), (None, 'unknown command'))]")


class CommandsTest(BoardCase):

    def test_beside_an_equal_board(self):
        numbers = [*range(10), 15, 16, 31, 32, 63, 64, 99, 100, 255, 999]
        lines = [f"{name} {number}" for number in numbers for name in WITH_NUMBER] + list(ALONE)
        lines = [line for pair in zip(lines, lines[::-1]) for line in pair]
        for kind in KINDS:
            for width in WIDTHS:
                board, beside = kind((width, (0,))), kind((width, (0,)))
                console = Console(board)
                for line in lines:
                    with self.subTest(kind=kind, width=width, line=line):
                        self.assertEqual(console.execute(line), wanted_call(beside, line))
                        self.assertEqual(told_with_log(board), told_with_log(beside))

    def test_lots_of_each_width(self):
        for width in WIDTHS:
            for lot in sample_lots(width)[::4]:
                board = Board(lot)
                console = Console(board)
                before = told_with_log(board)
                for line in ("lot", "size", "kept", "keepers", "pairs", "at 0", f"at {len(lot[1])}"):
                    self.assertEqual(console.execute(line), wanted_call(Board(lot), line))
                self.assertEqual(told_with_log(board), before)

    def test_plain_answers(self):
        console = Console(Board((2, (0, 3))))
        lines = {"kept": "none", "size": "2", "lot": "lot 2 0 3", "at 1": "3", "look 0": "yes", "look 1": "no", "turn 1": "ok 1",
                 "flip": "ok 2", "drop 0": "ok 3", "add 1": "ok 4", "undo": "ok 3"}
        self.assertEqual({line: console.execute(line) for line in lines}, lines)
        self.assertEqual(console.execute("kept"), "no")

    def test_each_error(self):
        board = ApartBoard((2, (0,)))
        console = Console(board)
        lines = {"undo": "NothingToUndo", "add 0": "Present", "drop 3": "Missing", "add 1": "TooNear", "flip": "TooNear",
                 "add 4": "NoMask", "drop 999": "NoMask", "turn 4": "NoMask", "look 4": "NoMask", "at 1": "NoIndex",
                 "at 999": "NoIndex"}
        before = told_with_log(board)
        for line, name in lines.items():
            self.assertEqual(console.execute(line), "error " + name)
            self.assertEqual(told_with_log(board), before)
        for number in range(60):
            board.turn(0)
        for line in ("add 0", "add 9", "drop 3", "flip", "turn 0", "turn 9"):
            self.assertEqual(console.execute(line), "error TooManyEdits")
        answers = []
        board.undo()
        board.run([("turn", 0)], on_step=lambda given: answers.extend(
            [console.execute(line) for line in ("add 0", "add 9", "drop 3", "flip", "turn 0", "undo")]))
        self.assertEqual(answers, ["error Busy"] * 6)
        self.assertEqual(console.execute("undo"), "ok 59")

    def test_this_very_board(self):
        for kind in KINDS:
            board = kind((3, (0,)))
            console, second = Console(board), Console(board)
            self.assertEqual([console.execute("add 3"), second.execute("turn 1"), board.undo()], ["ok 1", "ok 2", 1])
            self.assertEqual([console.execute("lot"), second.execute("look 3"), console.execute("kept")],
                             ["lot 3 0 3", "yes", "yes"])
            self.assertEqual(board.mark, 3)
            self.assertEqual([line for line, answer in console.history], ["add 3", "lot", "kept"])
            self.assertEqual([line for line, answer in second.history], ["turn 1", "look 3"])

    def test_log(self):
        for kind in LOGGED:
            board = kind((2, (0,)))
            console = Console(board)
            for line in ("turn 1", "lot", "look 1", "undo", "undo", "turn 4", "add 3", "pairs"):
                console.execute(line)
            self.assertEqual(board.log, (("turn", 1), ("undo", 0), ("add", 1)))


class UnknownTest(BoardCase):

    def check_unknown(self, values):
        for kind in (Board, LoggedBoard):
            board = kind((2, (0, 3)))
            board.turn(0)
            board.mark = 1
            console = Console(board)
            before = told_with_log(board)
            for value in values:
                with self.subTest(value=value):
                    shown = repr(value)
                    self.assertEqual(console.execute(value), UNKNOWN)
                    self.assertEqual(console.history[-1], (value if isinstance(value, str) else None, UNKNOWN))
                    self.assertEqual(told_with_log(board), before)
                    self.assertEqual(repr(value), shown)

    def test_wrong_numbers(self):
        self.check_unknown([f"{name} {word}" for name in WITH_NUMBER for word in WRONG_NUMBERS])

    def test_too_few_and_too_many_words(self):
        self.check_unknown([*WITH_NUMBER, *[f"{name} 1 1" for name in WITH_NUMBER], *[f"{name} 1 x" for name in WITH_NUMBER]])
        self.check_unknown([f"{name} 1" for name in ALONE])
        self.check_unknown([f"{name} {name}" for name in ALONE + WITH_NUMBER])

    def test_spaces_and_empty_words(self):
        changes = ("{} ", " {}", "{}  ", " {} ", "{}\n", "\n{}", "{}\t", "\t{}")
        lines = [*[f"{name} 1" for name in WITH_NUMBER], *ALONE]
        self.check_unknown([change.format(line) for change in changes for line in lines])
        self.check_unknown([f"{name}{gap}1" for name in WITH_NUMBER for gap in ("", "  ", "\n", "\t", " \n")])
        self.check_unknown([f"{name} 1 " for name in WITH_NUMBER])
        self.check_unknown(["", " ", "  ", "\n", "\n\n"])

    def test_other_words(self):
        self.check_unknown(["ADD 1", "Add 1", "Lot", "FLIP", "run", "run 1", "copy", "mark", "mark 1", "version", "edits",
                            "str", "log", "history", "help", "exit", "1", "1 add", "look None", "look none", "lot 2 0 3",
                            "unknown command", "error", "as_set", "lot_at 0", "walk", "__init__", "answer 1"])

    def test_values_that_are_no_texts(self):
        values = [value for value in odd_values() if not isinstance(value, str)]
        self.check_unknown([*values, 0, 5, 10 ** 40 - 1, ["flip"], ("flip",), ("add", 1), b"flip", MaskSet((2, (0,))),
                            Board((2, (0,)))])

    def test_other_texts(self):
        self.check_unknown([value for value in odd_values() if isinstance(value, str) and value != "lot"])


class HistoryTest(BoardCase):

    def test_at_first(self):
        self.assertEqual(repr(Console(Board((2, ()))).history), "()")

    def test_last_twenty(self):
        console = Console(Board((2, (0,))))
        pairs = []
        for number in range(65):
            line = (f"turn {number % 5}", "undo", None, "lot", f"x {number}")[number % 5]
            value = [number] if line is None else line
            pairs.append((line, console.execute(value)))
            self.assertEqual(repr(console.history), repr(tuple(pairs[-20:])))
            self.assertEqual(len(console.history), min(20, number + 1))

    def test_no_text(self):
        for value in (5, None, [], {"lot": 1}, ("lot",), True):
            console = Console(Board((2, ())))
            console.execute(value)
            self.assertEqual(repr(console.history), "((None, 'unknown command'),)")

    def test_errors_are_kept_too(self):
        console = Console(Board((2, ())))
        console.execute("undo")
        console.execute("")
        self.assertEqual(console.history, (("undo", "error NothingToUndo"), ("", UNKNOWN)))

    def test_cannot_be_assigned(self):
        console = Console(Board((2, ())))
        console.execute("size")
        self.assertRaises(AttributeError, setattr, console, "history", ())
        self.assertEqual(console.history, (("size", "0"),))

    def test_a_history_that_was_read_stays(self):
        console = Console(Board((2, ())))
        before = console.history
        console.execute("size")
        self.assertEqual((before, console.history), ((), (("size", "0"),)))

    def test_during_on_step(self):
        board = Board((2, (0,)))
        console = Console(board)
        board.run([("add", 1), ("flip",)], on_step=lambda given: console.execute("lot"))
        console.execute("flip")
        self.assertEqual(console.history, (("lot", "lot 2 0 1"), ("lot", "lot 2 2 3"), ("flip", "ok 3")))

    def test_stays_after_a_run_that_fails(self):
        board = Board((2, (0,)))
        console = Console(board)
        self.assertRaises(ValueError, board.run, [("add", 1), ("add", 1)], on_step=lambda given: console.execute("size"))
        self.assertEqual((console.history, console.execute("size")), ((("size", "2"),), "1"))


if __name__ == "__main__":
    unittest.main()
