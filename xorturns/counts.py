"""Counts: signs, pair counts and signed counts, and the choice of masks by their properties."""

from xorturns.errors import BadWish, NoProperty
from xorturns.lots import is_number
from xorturns.turns import keepers

PROPERTIES = ("ones", "bit", "keeper", "pairs")


def count_ones(mask):
    """Return the number of ones of the mask."""
    return f"{mask:b}".count("1")


def sign(one, other):
    """Return 1 if both have an even number of bits in common, -1 if it is odd."""
    return 1 if count_ones(one & other) % 2 == 0 else -1


def pair_counts(lot):
    """Return the tuple of the pair counts at all masks."""
    width, masks = lot
    return tuple([len([x for x in masks if x ^ mask in masks]) for mask in range(1 << width)])


def signed_counts(lot):
    """Return the tuple of the signed counts at all masks."""
    width, masks = lot
    return tuple([sum([sign(mask, x) for x in masks]) for mask in range(1 << width)])


def lot_with(width, value):
    """Return the lot of this width with these signed counts, None if there is none."""
    many = 1 << width
    if not isinstance(value, tuple) or len(value) != many or not all([is_number(count) for count in value]):
        return None
    # The signs undo themselves: the signed sum of all signed counts is many at a mask of the lot, and 0 elsewhere.
    sums = [sum([count * sign(mask, x) for mask, count in enumerate(value)]) for x in range(many)]
    if not all([total in (0, many) for total in sums]):
        return None
    return (width, tuple([x for x in range(many) if sums[x] == many]))


def select(lot, **wanted):
    """Return the ascending tuple of the masks of the lot that have all wanted properties."""
    check_wishes(wanted)
    keeping = keepers(lot)
    counts = pair_counts(lot)
    chosen = lot[1]
    for name, worth in wanted.items():
        if name == "ones":
            chosen = [x for x in chosen if count_ones(x) == worth]
        elif name == "bit":
            chosen = [x for x in chosen if 0 <= worth < lot[0] and (x >> worth) & 1 == 1]
        elif name == "keeper":
            chosen = [x for x in chosen if (x in keeping) == worth]
        else:
            chosen = [x for x in chosen if counts[x] == worth]
    return tuple(chosen)


def check_wishes(wanted):
    """Raise the error of the first wish that cannot be met, wrong names before wrong values."""
    for name in wanted:
        if name not in PROPERTIES:
            raise NoProperty(name)
    for name, worth in wanted.items():
        if not is_wish(name, worth):
            raise BadWish(worth)


def is_wish(name, worth):
    """Return whether the value is of the kind that this property has."""
    return isinstance(worth, bool) if name == "keeper" else is_number(worth)
