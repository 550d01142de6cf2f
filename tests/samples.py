"""Lots and other values for the tests."""

from itertools import combinations
from random import Random

WIDTHS = (1, 2, 3, 4, 5, 6)


def deep(levels):
    """A list in a tuple in a dict ..., so many levels deep."""
    value = 0
    for level in range(levels):
        value = ([value], (value,), {"a": value})[level % 3]
    return value


def odd_values():
    """New values of all kinds, none of which is an integer, a mask or a lot."""
    return [
        None, True, False, "", "0", "lot", "lot 2 0 3", "a b\n~" * 400,
        (), [], {}, (0,), [0], {"0": 0}, (None,), (True,), ("",), ((),),
        (2,), (2, (0,), 1), [2, (0,)], (2, [0]), ((0,), 2), {"width": 2, "masks": (0,)},
        (None, "lot"), (1, "mask"), ("turn", 1), ("blocks", ((0, 1), (3, 1))),
        tuple(range(1000)), list(range(1000)), deep(20),
    ]


def subsets(items):
    """All tuples of some of the items, in their order."""
    return [chosen for many in range(len(items) + 1) for chosen in combinations(items, many)]


def lots_of(width):
    """All lots of a width up to 3, otherwise lots of many sizes and shapes, the empty and the full one too."""
    everything = range(2 ** width)
    if width <= 3:
        return [(width, masks) for masks in subsets(everything)]
    rules = [
        lambda x: False, lambda x: True, lambda x: x == 0, lambda x: x == 2 ** width - 1,
        lambda x: x != 0, lambda x: x != 2 ** width - 1, lambda x: x % 2 == 0, lambda x: x % 3 == 0,
        lambda x: x < 5, lambda x: x >= 2 ** (width - 1), lambda x: bin(x).count("1") % 2 == 1,
        lambda x: bin(x).count("1") == 2, lambda x: x * x % 7 in (1, 2), lambda x: x * 37 % 11 < 4,
        lambda x: x in (1, 6, 2 ** width - 3), lambda x: x & 5 == 4,
    ]
    return [(width, tuple(x for x in everything if rule(x))) for rule in rules]


def drawn_lots(width, many):
    """So many lots of all sizes, always the same ones; each third one is kept by some mask above 0."""
    source = Random(1000 * width + many)
    lots = []
    for number in range(many):
        masks = source.sample(range(2 ** width), source.randint(0, 2 ** width))
        if number % 3 == 0:
            masks = masks[::3]
            for keeper in source.sample(range(1, 2 ** width), (width + 1) // 2):
                masks = sorted({*masks, *[x ^ keeper for x in masks]})
        lots.append((width, tuple(sorted(masks))))
    return lots


def sample_lots(width):
    """The lots of lots_of, and drawn ones where these are not all lots."""
    return lots_of(width) + (drawn_lots(width, 24) if width > 3 else [])


def full_lot(width):
    return (width, tuple(range(2 ** width)))


def turned_by_hand(lot, mask):
    """The turned lot, without the program."""
    return (lot[0], tuple(sorted({x ^ mask for x in lot[1]})))


def turns_by_hand(one, other):
    """All turns, without the program."""
    return tuple(m for m in range(2 ** one[0]) if {x ^ m for x in one[1]} == set(other[1]))


def pairs_of_lots(width):
    """Pairs of lots: all of the widths 1 and 2; otherwise turned, nearly turned and other ones of all sizes."""
    if width <= 2:
        return [(one, other) for one in lots_of(width) for other in lots_of(width)]
    source = Random(width)
    several = drawn_lots(width, 20) + [(width, ()), full_lot(width), (width, (0,)), (width, (1, 2))]
    pairs = []
    for one in several:
        other = turned_by_hand(one, source.randrange(2 ** width))
        pairs += [(one, other), (one, one), (one, source.choice(several)), (source.choice(several), one)]
        kept = other[1][1:]
        left = [x for x in range(2 ** width) if x not in other[1]]
        pairs += [(one, (width, kept)), (one, (width, tuple(sorted((*kept, *left[:1])))))]
        same = source.sample(range(2 ** width), len(one[1]))
        pairs += [(one, (width, tuple(sorted(same))))]
    return pairs
