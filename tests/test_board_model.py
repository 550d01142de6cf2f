"""Boards beside a plain model of them: many calls, drawn always in the same way."""

import unittest
from random import Random

from tests.cases import APART, KINDS, LOGGED, told
from tests.samples import odd_values
from xorturns.boards import Board


class Refused(Exception):
    """The model refuses a call; the name is that of the error."""

    def __init__(self, name):
        self.name = name


class Model:
    """A board that computes everything anew from its first lot."""

    def __init__(self, kind, width, masks):
        self.apart, self.logged = kind in APART, kind in LOGGED
        self.width, self.first, self.edits, self.mark, self.log = width, frozenset(masks), [], None, []

    def masks_at(self, version):
        masks = set(self.first)
        for name, *args in self.edits[:version]:
            if name == "add":
                masks.add(*args)
            elif name == "drop":
                masks.remove(*args)
            elif name == "flip":
                masks = set(range(2 ** self.width)) - masks
            else:
                masks = {x ^ args[0] for x in masks}
        return masks

    def is_mask(self, value):
        return type(value) is int and value in range(2 ** self.width)

    def check(self, edit):
        masks = self.masks_at(len(self.edits))
        if len(self.edits) == 60:
            raise Refused("TooManyEdits")
        if edit[0] != "flip" and not self.is_mask(edit[1]):
            raise Refused("NoMask")
        if edit[0] == "add" and edit[1] in masks:
            raise Refused("Present")
        if edit[0] == "drop" and edit[1] not in masks:
            raise Refused("Missing")

    def do(self, edit):
        self.check(edit)
        self.edits.append(edit)
        masks = self.masks_at(len(self.edits))
        if self.apart and any(bin(x ^ y).count("1") == 1 for x in masks for y in masks):
            self.edits.pop()
            raise Refused("TooNear")

    def call(self, name, *args):
        if name == "undo":
            if not self.edits:
                raise Refused("NothingToUndo")
            self.edits.pop()
        elif name == "run":
            self.run(*args)
        else:
            self.do((name, *args))
        self.log.append((name, len(self.edits)))
        return len(self.edits)

    def run(self, edits):
        before = list(self.edits)
        for edit in edits:
            try:
                self.do(edit)
            except Refused:
                self.edits = before
                raise Refused("Rejected")

    def told(self, kind):
        lots = [(self.width, tuple(sorted(self.masks_at(version)))) for version in range(len(self.edits) + 1)]
        lot = lots[-1]
        kept = None if self.mark is None else {x ^ self.mark for x in lot[1]} == set(lot[1])
        return repr((
            kind.__name__, lot, len(lot[1]), len(self.edits), self.mark, kept, tuple(self.edits), list(enumerate(lots)),
            lots, lot, list(lot[1]), list(lot[1]), f"{len(lot[1])} masks, {len(self.edits)} edits", len(self.edits)))


def drawn_edit(source, width):
    name = source.choice(("add", "add", "drop", "drop", "flip", "turn"))
    if name == "flip":
        return (name,)
    mask = source.randrange(2 ** width) if source.randrange(12) else source.choice([-1, 2 ** width, *odd_values()])
    return (name, mask)


def drawn_call(source, width):
    kind = source.randrange(10)
    if kind < 6:
        return drawn_edit(source, width)
    if kind < 8:
        return ("undo",)
    return ("run", [drawn_edit(source, width) for number in range(source.choice((0, 1, 2, 3, 5, 20)))])


class ModelTest(unittest.TestCase):

    def attempt(self, function, *args):
        try:
            return function(*args)
        except Refused as error:
            return "raises " + error.name
        except (ValueError, LookupError) as error:
            return "raises " + type(error).__name__

    def test_drawn_calls(self):
        for kind in KINDS:
            for width in range(1, 7):
                source = Random(f"{kind.__name__} {width}")
                board, model = kind((width, (0,))), Model(kind, width, (0,))
                for number in range(150):
                    if source.randrange(5) == 0:
                        board.mark = model.mark = source.choice((None, source.randrange(2 ** width)))
                    if source.randrange(25) == 0:
                        board = board.copy()
                    name, *args = drawn_call(source, width)
                    found = self.attempt(getattr(board, name), *args)
                    wanted = self.attempt(model.call, name, *args)
                    self.assertEqual(repr(found), repr(wanted), (kind, width, number, name, args))
                    self.assertEqual(told(board), model.told(kind), (kind, width, number, name, args))
                    if kind in LOGGED:
                        self.assertEqual(repr(board.log), repr(tuple(model.log)))

    def test_the_calls_meet_each_error(self):
        seen = set()
        for kind in KINDS:
            for width in (2, 5):
                source = Random(width)
                board = kind((width, (0,)))
                for number in range(600):
                    name, *args = drawn_call(source, width)
                    if name != "undo" or source.randrange(5) == 0:
                        seen.add(self.attempt(getattr(board, name), *args))
        wanted = {"TooManyEdits", "NoMask", "Present", "Missing", "TooNear", "Rejected"}
        self.assertEqual({"raises " + name for name in wanted} - seen, set())
        self.assertEqual(self.attempt(Board((2, ())).undo), "raises NothingToUndo")


if __name__ == "__main__":
    unittest.main()
