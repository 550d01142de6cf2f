"""Texts: numbers and lots, written and read."""

from xorturns.errors import BadText
from xorturns.lots import is_width, mask_error

# A console takes no longer numbers, and no width or mask is longer.
MOST_DIGITS = 3


def number_of(word):
    """Return the number that the word writes in decimal, without a sign and leading zeros, None if it writes none."""
    if not 1 <= len(word) <= MOST_DIGITS or not all([character in "0123456789" for character in word]):
        return None
    if word[0] == "0" and len(word) > 1:
        return None
    return int(word)


def lot_text(lot):
    """Return the text of the lot."""
    width, masks = lot
    return " ".join([str(word) for word in ("lot", width, *masks)])


def parse_lot(text):
    """Return the lot that has this text."""
    if not isinstance(text, str):
        raise BadText(None)
    first, *rest = text.split(" ")
    if first != "lot":
        raise BadText(0)
    numbers = [number_of(word) for word in rest]
    if len(numbers) == 0 or not is_width(numbers[0]):
        raise BadText(1)
    width, masks = numbers[0], tuple(numbers[1:])
    error = mask_error(width, masks)
    if error is not None:
        # The masks stand behind two words.
        raise BadText(error[0] + 2)
    return (width, masks)
