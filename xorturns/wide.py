"""Wide lots: tuples of patterns whose masks may be too many to be listed.

The functions read the patterns from the greatest bit on. What is left of the patterns that allow the digits so far
is a tuple of rests, each of them once. Different digits soon leave the same rests, so there are few to look at.
"""

from xorturns.bounds import MAX_PATTERNS, MAX_SIGNS, MAX_WIDTH
from xorturns.errors import NoIndex, NoMask, OtherWidth, TooWide
from xorturns.lots import is_mask, is_number


def is_wide(value):
    """Return whether the value is a wide lot."""
    return wide_error(value) is None


def wide_error(value):
    """Return None for a wide lot, otherwise where and in what the value fails to be one."""
    if not isinstance(value, tuple) or not 1 <= len(value) <= MAX_PATTERNS:
        return (None, "wide")
    for index, pattern in enumerate(value):
        if not is_pattern(pattern) or len(pattern) != len(value[0]):
            return (index, "pattern")
    return None


def is_pattern(value):
    """Return whether the value is a pattern."""
    if not isinstance(value, str) or not 1 <= len(value) <= MAX_SIGNS:
        return False
    return all([character in "01?" for character in value])


def width_of(wide):
    """Return the number of characters of each pattern."""
    return len(wide[0])


def digits_of(mask, width):
    """Return the mask, written with so many binary digits."""
    return f"{mask:b}".zfill(width)


def has_mask(wide, mask):
    """Return whether the value is a mask of the wide lot."""
    width = width_of(wide)
    return is_mask(mask, width) and any([fits(digits_of(mask, width), pattern) for pattern in wide])


def fits(digits, pattern):
    """Return whether the pattern allows all the digits."""
    return all([character in (digit, "?") for digit, character in zip(digits, pattern)])


def rests_after(rests, digit):
    """Return what the rests leave behind this digit, ascending and each once, without those that do not allow it."""
    return tuple(sorted({rest[1:] for rest in rests if rest[0] in (digit, "?")}))


def allows_all(rests):
    """Return whether one of the rests allows all digits."""
    return len(rests) > 0 and "?" * len(rests[0]) in rests


def count_rests(rests, known):
    """Return how many rows of digits the rests allow; known keeps the numbers that are found on the way."""
    if len(rests) == 0:
        return 0
    if allows_all(rests):
        return 1 << len(rests[0])
    if rests not in known:
        known[rests] = count_rests(rests_after(rests, "0"), known) + count_rests(rests_after(rests, "1"), known)
    return known[rests]


def count_masks(wide):
    """Return the number of the masks of the wide lot."""
    return count_rests(wide, {})


def mask_at(wide, index):
    """Return the mask with this index in ascending order."""
    known = {}
    if not is_number(index) or not 0 <= index < count_rests(wide, known):
        raise NoIndex(index)
    mask, rests, before = 0, wide, index
    while rests[0] != "":
        many = count_rests(rests_after(rests, "0"), known)
        if before < many:
            mask, rests = mask * 2, rests_after(rests, "0")
        else:
            mask, rests, before = mask * 2 + 1, rests_after(rests, "1"), before - many
    return mask


def mask_index(wide, mask):
    """Return the index of the mask in ascending order."""
    if not has_mask(wide, mask):
        raise NoMask(mask)
    known = {}
    index, rests = 0, wide
    for digit in digits_of(mask, width_of(wide)):
        if digit == "1":
            index += count_rests(rests_after(rests, "0"), known)
        rests = rests_after(rests, digit)
    return index


def wide_turned(wide, mask):
    """Return the patterns that the turned masks fit."""
    width = width_of(wide)
    if not is_mask(mask, width):
        raise NoMask(mask)
    digits = digits_of(mask, width)
    return tuple([combined(pattern, digits) for pattern in wide])


def wide_sum(one, other):
    """Return the ascending tuple of the patterns that the sums of the masks of both fit."""
    check_widths(one, other)
    return tuple(sorted({combined(pattern, second) for pattern in one for second in other}))


def combined(one, other):
    """Return the pattern of the sums of what fits the one and what fits the other pattern."""
    return "".join([combined_character(x, y) for x, y in zip(one, other)])


def combined_character(one, other):
    """Return the exclusive or of two digits, ? if one of them is ?."""
    if one == "?" or other == "?":
        return "?"
    return "0" if one == other else "1"


def check_widths(one, other):
    """Raise OtherWidth if the wide lots are not of one width."""
    if width_of(one) != width_of(other):
        raise OtherWidth(1)


def first_difference(one, other):
    """Return the least mask that only one of the wide lots has, None if they have the same masks."""
    check_widths(one, other)
    return difference_below(one, other, 0, {})


def difference_below(one, other, start, alike):
    """Return the least mask that begins with start and goes on as only one of the two tuples of rests allows.

    Returns None if there is none; alike keeps the pairs of rests that are known to allow the same digits.
    """
    if one == other or (allows_all(one) and allows_all(other)) or (one, other) in alike:
        return None
    if "" in one or "" in other:
        return start
    for digit in "01":
        mask = difference_below(rests_after(one, digit), rests_after(other, digit), start * 2 + int(digit), alike)
        if mask is not None:
            return mask
    alike[(one, other)] = True
    return None


def wide_keeps(wide, mask):
    """Return whether the turned wide lot has the same masks."""
    return first_difference(wide, wide_turned(wide, mask)) is None


def lot_of(wide):
    """Return the lot with the masks of the wide lot."""
    width = width_of(wide)
    if width > MAX_WIDTH:
        raise TooWide(MAX_WIDTH)
    return (width, tuple([mask for mask in range(1 << width) if has_mask(wide, mask)]))


def patterns_of(lot):
    """Return the tuple of the patterns of the masks of the lot, ascending."""
    width, masks = lot
    return tuple([digits_of(mask, width) for mask in masks])
