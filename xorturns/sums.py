"""Sums: added lots, equations between them, and flat lots."""

from xorturns.claims import is_claim
from xorturns.errors import EmptyLot
from xorturns.lots import common_width, is_lot, is_number, left_over


def sum_of(*lots):
    """Return the lot of the exclusive or of one mask of each lot, for all choices."""
    width = common_width(lots)
    reached = [0]
    for lot in lots:
        reached = sorted({x ^ y for x in reached for y in lot[1]})
    return (width, tuple(reached))


def greatest_addend(one, other):
    """Return the lot of all masks that turn one into a lot within other."""
    width = common_width((one, other))
    return (width, tuple([mask for mask in range(1 << width) if all([x ^ mask in other[1] for x in one[1]])]))


def solve(one, other):
    """Return the greatest addend if one plus it is other, otherwise the least mask of other that is missed."""
    missed = missed_masks(one, other)
    if len(missed) > 0:
        return ("missing", missed[0])
    return ("addend", greatest_addend(one, other))


def missed_masks(one, other):
    """Return, ascending, the masks of other that one plus the greatest addend does not have."""
    return left_over(other, sum_of(one, greatest_addend(one, other)))[1]


def solution_holds(one, other, value):
    """Return whether the value states a lot that one plus it is other, or a mask that no such sum has."""
    width = common_width((one, other))
    if is_claim(value, "addend", 2):
        lot = value[1]
        return is_lot(lot) and lot[0] == width and sum_of(one, lot) == other
    if is_claim(value, "missing", 2):
        return is_number(value[1]) and value[1] in missed_masks(one, other)
    return False


def find_bend(lot):
    """Return the smallest ascending three masks of the lot whose exclusive or it does not have, None without such."""
    masks = lot[1]
    # If some three masks bend, then the least mask bends with two others, so it is the first of the smallest three.
    for at, y in enumerate(masks):
        for z in masks[at + 1:]:
            if masks[0] ^ y ^ z not in masks:
                return (masks[0], y, z)
    return None


def flat_around(lot):
    """Return the smallest flat lot that has all masks of the lot."""
    width, masks = lot
    if len(masks) == 0:
        raise EmptyLot()
    reached = [masks[0]]
    for mask in masks:
        if mask not in reached:
            reached = reached + [x ^ masks[0] ^ mask for x in reached]
    return (width, tuple(sorted(reached)))
