"""Lots: tuples (width, masks) with the ascending tuple of some masks of one width."""

from xorturns.bounds import MAX_WIDTH
from xorturns.errors import BadLot, NoLots, NoMask, OtherWidth


def is_number(value):
    """Return whether the value is an integer; Python counts True and False as such, the document does not."""
    return isinstance(value, int) and not isinstance(value, bool)


def is_width(value):
    """Return whether the value is a width."""
    return is_number(value) and 1 <= value <= MAX_WIDTH


def is_mask(value, width):
    """Return whether the value is a mask of this width."""
    return is_number(value) and 0 <= value < (1 << width)


def is_lot(value):
    """Return whether the value is a lot."""
    return lot_error(value) is None


def lot_error(value):
    """Return None for a lot, otherwise where and in what the value fails to be one."""
    if not isinstance(value, tuple) or len(value) != 2:
        return (None, "lot")
    width, masks = value
    if not is_width(width):
        return (None, "width")
    if not isinstance(masks, tuple):
        return (None, "masks")
    return mask_error(width, masks)


def check_lot(value):
    """Raise BadLot if the value is not a lot."""
    error = lot_error(value)
    if error is not None:
        raise BadLot(error)


def mask_error(width, masks):
    """Return (index, "mask") for the first item that is no mask or does not ascend, None if there is none."""
    least = 0
    for index, mask in enumerate(masks):
        if not is_mask(mask, width) or mask < least:
            return (index, "mask")
        least = mask + 1
    return None


def turned(lot, mask):
    """Return the lot turned by the mask."""
    width, masks = lot
    if not is_mask(mask, width):
        raise NoMask(mask)
    return (width, tuple(sorted([x ^ mask for x in masks])))


def rest_of(lot):
    """Return the lot of all masks of the width that the lot does not have."""
    width, masks = lot
    return (width, tuple([x for x in range(1 << width) if x not in masks]))


def left_over(one, other):
    """Return the lot of the masks of one that other does not have."""
    width = common_width((one, other))
    return (width, tuple([x for x in one[1] if x not in other[1]]))


def united(*lots):
    """Return the lot of the masks that at least one of the lots has."""
    width = common_width(lots)
    return (width, tuple(sorted({x for lot in lots for x in lot[1]})))


def shared(*lots):
    """Return the lot of the masks that all the lots have."""
    width = common_width(lots)
    return (width, tuple([x for x in lots[0][1] if all([x in lot[1] for lot in lots])]))


def common_width(lots):
    """Return the width that all the lots have."""
    if len(lots) == 0:
        raise NoLots()
    width = lots[0][0]
    for index, lot in enumerate(lots):
        if lot[0] != width:
            raise OtherWidth(index)
    return width
