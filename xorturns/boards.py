"""Boards: lots that are edited step by step, and undone.

A board keeps the lots of all versions and the edits between them in tuples, which are never changed, only replaced:
so a copy may share them, and a run that fails restores what it began with.
"""

from xorturns.bounds import BATCH
from xorturns.errors import (
    BadEdit, BadEdits, Busy, Missing, NoMask, NothingToUndo, NoVersion, Present, Rejected, TooManyEdits, TooNear)
from xorturns.lots import check_lot, is_mask, is_number, left_over, rest_of, turned, united
from xorturns.masksets import MaskSet
from xorturns.texts import parse_lot


def edited(lot, edit):
    """Return the lot that the edit makes of the lot."""
    name = edit[0]
    if name == "flip":
        return rest_of(lot)
    mask = edit[1]
    if not is_mask(mask, lot[0]):
        raise NoMask(mask)
    if name == "turn":
        return turned(lot, mask)
    return with_mask(lot, mask) if name == "add" else without_mask(lot, mask)


def with_mask(lot, mask):
    """Return the lot with this mask put into it."""
    if mask in lot[1]:
        raise Present(mask)
    return united(lot, (lot[0], (mask,)))


def without_mask(lot, mask):
    """Return the lot with this mask taken out of it."""
    if mask not in lot[1]:
        raise Missing(mask)
    return left_over(lot, (lot[0], (mask,)))


def check_apart(lot):
    """Raise TooNear with the smallest pair of masks of the lot that differ in one bit only, if there is one."""
    width, masks = lot
    for mask in masks:
        for bit in range(width):
            near = mask ^ (1 << bit)
            if near > mask and near in masks:
                raise TooNear(mask, near)


class Board:
    """A lot, and the edits in effect that led to it."""

    MOST_EDITS = 60
    NAMES = ("add", "drop", "flip", "turn")

    def __init__(self, lot):
        check_lot(lot)
        self.lots = (lot,)
        self.done = ()
        self.marked = None
        self.busy = False

    @classmethod
    def read(cls, text):
        """Return a new board with the lot of a text."""
        return cls(parse_lot(text))

    @classmethod
    def begun(cls, lot):
        """Return a new board of the same class; an object cannot name its class otherwise."""
        return cls(lot)

    @staticmethod
    def is_edit(value):
        """Return whether the value is a tuple of the name of an editing method and its arguments."""
        if not isinstance(value, tuple) or len(value) == 0 or value[0] not in Board.NAMES:
            return False
        return len(value) == (1 if value[0] == "flip" else 2)

    @property
    def lot(self):
        """The current lot."""
        return self.lots[-1]

    @property
    def size(self):
        """The number of the masks of the current lot."""
        return len(self.lot[1])

    @property
    def version(self):
        """The number of the edits in effect."""
        return len(self.done)

    @property
    def mark(self):
        """A mask to look at, or None."""
        return self.marked

    @mark.setter
    def mark(self, value):
        if value is not None and not is_mask(value, self.lot[0]):
            raise NoMask(value)
        self.marked = value

    @property
    def kept(self):
        """Whether the mark keeps the current lot, None without a mark."""
        if self.marked is None:
            return None
        return turned(self.lot, self.marked) == self.lot

    def look(self, value):
        """Assign the mark and return whether it keeps the current lot."""
        self.mark = value
        return self.kept

    def add(self, mask):
        """Put a mask into the lot and return the new version."""
        return self.edit_once(("add", mask))

    def drop(self, mask):
        """Take a mask out of the lot and return the new version."""
        return self.edit_once(("drop", mask))

    def flip(self):
        """Replace the lot by the lot of all other masks and return the new version."""
        return self.edit_once(("flip",))

    def turn(self, mask):
        """Turn the lot and return the new version."""
        return self.edit_once(("turn", mask))

    def undo(self):
        """Remove the last edit in effect and return the new version."""
        self.check_free()
        if self.version == 0:
            raise NothingToUndo()
        self.lots, self.done = self.lots[:-1], self.done[:-1]
        return self.finished("undo")

    def run(self, edits, *, on_step=None):
        """Do all the edits or, if one of them or on_step fails, none; return the new version."""
        self.check_free()
        batch = self.copied_batch(edits)
        lots, done, marked = self.lots, self.done, self.marked
        version = None
        try:
            self.do_batch(batch, on_step)
            version = self.finished("run")
        finally:
            if version is None:
                self.lots, self.done, self.marked = lots, done, marked
        return version

    def edit_once(self, edit):
        """Do an edit that is a call of its own and return the new version."""
        self.check_free()
        self.do(edit)
        return self.finished(edit[0])

    def check_free(self):
        """Raise Busy while on_step runs."""
        if self.busy:
            raise Busy()

    def do(self, edit):
        """Do an edit."""
        if self.version >= self.MOST_EDITS:
            raise TooManyEdits()
        lot = self.lot_after(edit)
        self.lots, self.done = (*self.lots, lot), (*self.done, edit)

    def lot_after(self, edit):
        """Return the lot that would result from an edit; a class with more demands on it raises its errors here."""
        return edited(self.lot, edit)

    def finished(self, name):
        """Return the version at the end of a call of this method that raises nothing; a class may note it here."""
        return self.version

    def copied_batch(self, edits):
        """Return a copy of the edits of a run."""
        if not isinstance(edits, (list, tuple)) or len(edits) > BATCH:
            raise BadEdits()
        for index, edit in enumerate(edits):
            if not self.is_edit(edit):
                raise BadEdit(index)
        return tuple(edits)

    def do_batch(self, batch, on_step):
        """Do the edits of a run and call on_step after each of them."""
        for index, edit in enumerate(batch):
            self.do_or_reject(index, edit)
            if on_step is not None:
                self.call_step(on_step)

    def do_or_reject(self, index, edit):
        """Do the edit with this index of a run."""
        try:
            self.do(edit)
        except (TooManyEdits, NoMask, Present, Missing, TooNear) as why:
            raise Rejected(index) from why

    def call_step(self, on_step):
        """Call on_step while the board takes no edits."""
        self.busy = True
        try:
            on_step(self)
        finally:
            self.busy = False

    def lot_at(self, version):
        """Return the lot after so many of the edits in effect."""
        if not is_number(version) or not 0 <= version <= self.version:
            raise NoVersion(version)
        return self.lots[version]

    def edits(self):
        """Return the tuple of the edits in effect."""
        return self.done

    def walk(self):
        """Yield (version, lot) for each version."""
        for version, lot in enumerate(self.lots):
            yield (version, lot)

    def as_set(self):
        """Return the MaskSet of the current lot."""
        return MaskSet(self.lot)

    def __contains__(self, x):
        return x in self.as_set()

    def __getitem__(self, at):
        return self.as_set()[at]

    # Without this, Python would iterate by means of the indexes.
    def __iter__(self):
        raise TypeError("a board is not iterated over")

    def copy(self):
        """Return an independent board with the same edits in effect and the same mark."""
        twin = self.begun(self.lots[0])
        twin.lots, twin.done, twin.marked = self.lots, self.done, self.marked
        return twin

    def __len__(self):
        return len(self.done)

    def __str__(self):
        return f"{self.size} masks, {self.version} edits"

    def __eq__(self, other):
        return isinstance(other, Board) and self.lot == other.lot


class ApartBoard(Board):
    """A board any two of whose masks differ in at least two bits."""

    def __init__(self, lot):
        super().__init__(lot)
        check_apart(lot)

    def lot_after(self, edit):
        """Return the lot that would result from an edit, if its masks are apart."""
        lot = super().lot_after(edit)
        check_apart(lot)
        return lot


class LoggedBoard(Board):
    """A board that notes each call that changes it."""

    def __init__(self, lot):
        super().__init__(lot)
        self.rows = ()

    @property
    def log(self):
        """The tuple of the rows (name, version), one for each call that raised nothing."""
        return self.rows

    def finished(self, name):
        """Add the row of a call and return the version."""
        version = super().finished(name)
        self.rows = (*self.rows, (name, version))
        return version

    def copy(self):
        """Return an independent board that has the same log, too."""
        twin = super().copy()
        twin.rows = self.rows
        return twin


class LoggedApartBoard(LoggedBoard, ApartBoard):
    """A board that notes the calls and keeps its masks apart."""

    # The document lists the constructor for this class, so it stands here, too.
    def __init__(self, lot):
        super().__init__(lot)
