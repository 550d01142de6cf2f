"""The errors of the package. Each one holds the very objects that it was made of."""


class TurnError(ValueError):
    """The base of the errors that are not failed look-ups."""


class NoLots(TurnError):
    """No lot was passed where at least one is needed."""


class OtherWidth(TurnError):
    """The lot at this index has another width than the first one."""

    def __init__(self, index):
        self.index = index


class NoProperty(TurnError):
    """A mask has no property of this name."""

    def __init__(self, name):
        self.name = name


class BadWish(TurnError):
    """The value wanted of a property is not of its kind."""

    def __init__(self, value):
        self.value = value


class EmptyLot(TurnError):
    """The lot has no masks."""


class TooWide(TurnError):
    """The wide lot is wider than a lot may be."""

    def __init__(self, limit):
        self.limit = limit


class BadLot(TurnError):
    """The value is not a lot; error is what lot_error returns for it."""

    def __init__(self, error):
        self.error = error


class BadWide(TurnError):
    """The value is not a wide lot; error is what wide_error returns for it."""

    def __init__(self, error):
        self.error = error


class Present(TurnError):
    """The lot has this mask already."""

    def __init__(self, mask):
        self.mask = mask


class Missing(TurnError):
    """The lot does not have this mask."""

    def __init__(self, mask):
        self.mask = mask


class TooNear(TurnError):
    """Two masks of the lot differ in one bit only."""

    def __init__(self, one, other):
        self.one = one
        self.other = other


class TooManyEdits(TurnError):
    """As many edits as possible are in effect."""


class NothingToUndo(TurnError):
    """No edit is in effect."""


class BadEdits(TurnError):
    """The value is not a list or tuple of edits, or it is too long."""


class BadEdit(TurnError):
    """The item at this index is not an edit."""

    def __init__(self, index):
        self.index = index


class Rejected(TurnError):
    """The edit at this index raised an error."""

    def __init__(self, index):
        self.index = index


class Busy(TurnError):
    """The board is in the middle of a run."""


class BadText(TurnError):
    """The word at this index is not in its place; None if the value is not a text."""

    def __init__(self, index):
        self.index = index


class NoMask(LookupError):
    """The value is not a mask that can be used here."""

    def __init__(self, value):
        self.value = value


class NoIndex(LookupError):
    """The value is not an index that can be used here."""

    def __init__(self, value):
        self.value = value


class NoVersion(LookupError):
    """The value is not a version of the board."""

    def __init__(self, value):
        self.value = value
