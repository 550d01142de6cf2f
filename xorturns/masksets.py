"""Sets as objects: a MaskSet stands for a lot and combines it by operators."""

from xorturns.counts import pair_counts
from xorturns.errors import BadWide, NoIndex, NoMask
from xorturns.lots import check_lot, is_mask, is_number, left_over, rest_of, shared, turned, united
from xorturns.sums import greatest_addend, sum_of
from xorturns.turns import keepers as keepers_of
from xorturns.wide import lot_of, patterns_of, wide_error


def words_or_none(words):
    """Return the words with one space between two, "none" without words."""
    return " ".join(words) if len(words) > 0 else "none"


class MaskSet:
    """A set of masks of one width."""

    def __init__(self, lot):
        check_lot(lot)
        self.held = lot

    @classmethod
    def of_wide(cls, value):
        """Return the MaskSet with the masks of a wide lot."""
        error = wide_error(value)
        if error is not None:
            raise BadWide(error)
        return cls(lot_of(value))

    @property
    def lot(self):
        """The lot that this object stands for."""
        return self.held

    @property
    def width(self):
        """The width of the lot."""
        return self.held[0]

    @property
    def masks(self):
        """The ascending tuple of the masks."""
        return self.held[1]

    @property
    def keepers(self):
        """The ascending tuple of the masks that keep the lot."""
        return keepers_of(self.held)

    def __xor__(self, other):
        return MaskSet(turned(self.lot, other))

    def __or__(self, other):
        return MaskSet(united(self.lot, other.lot))

    def __and__(self, other):
        return MaskSet(shared(self.lot, other.lot))

    def __sub__(self, other):
        return MaskSet(left_over(self.lot, other.lot))

    def __add__(self, other):
        return MaskSet(sum_of(self.lot, other.lot))

    def __invert__(self):
        return MaskSet(rest_of(self.lot))

    def __contains__(self, x):
        return is_number(x) and x in self.masks

    def __getitem__(self, at):
        if not is_number(at) or not 0 <= at < len(self.masks):
            raise NoIndex(at)
        return self.masks[at]

    # Without this, Python would iterate by means of the indexes.
    def __iter__(self):
        raise TypeError("a MaskSet is not iterated over")

    def __call__(self, mask):
        """Return the pair count of the lot at the mask."""
        if not is_mask(mask, self.width):
            raise NoMask(mask)
        return pair_counts(self.lot)[mask]

    def __eq__(self, other):
        return isinstance(other, MaskSet) and self.lot == other.lot

    def within(self, other):
        """Return whether the other one has all masks of this one."""
        return len(left_over(self.lot, other.lot)[1]) == 0

    def addend(self, other):
        """Return the MaskSet of the greatest addend of this one for the other."""
        return MaskSet(greatest_addend(self.lot, other.lot))

    def __len__(self):
        return len(self.held[1])

    def __bool__(self):
        return len(self.held[1]) > 0

    def __str__(self):
        return f"{self.width} bits: {words_or_none(patterns_of(self.lot))}"
