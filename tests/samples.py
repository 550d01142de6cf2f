"""Lots and other values for the tests."""

from itertools import combinations

WIDTHS = (1, 2, 3, 4, 5, 6)


def deep(levels):
    """A list in a tuple in a dict ..., so many levels deep."""
    value = 0
    for level in range(levels):
        value = ([value], (value,), {"a": value})[level % 3]
    return value


def odd_values():
    """New values of all kinds, none of which is an integer, a mask or a lot."""
    return [
        None, True, False, "", "0", "lot", "lot 2 0 3", "a b\n~" * 400,
        (), [], {}, (0,), [0], {"0": 0}, (None,), (True,), ("",), ((),),
        (2,), (2, (0,), 1), [2, (0,)], (2, [0]), ((0,), 2), {"width": 2, "masks": (0,)},
        (None, "lot"), (1, "mask"), ("turn", 1), ("blocks", ((0, 1), (3, 1))),
        tuple(range(1000)), list(range(1000)), deep(20),
    ]


def subsets(items):
    """All tuples of some of the items, in their order."""
    return [chosen for many in range(len(items) + 1) for chosen in combinations(items, many)]


def lots_of(width):
    """All lots of a width up to 3, otherwise lots of many sizes and shapes, the empty and the full one too."""
    everything = range(2 ** width)
    if width <= 3:
        return [(width, masks) for masks in subsets(everything)]
    rules = [
        lambda x: False, lambda x: True, lambda x: x == 0, lambda x: x == 2 ** width - 1,
        lambda x: x != 0, lambda x: x != 2 ** width - 1, lambda x: x % 2 == 0, lambda x: x % 3 == 0,
        lambda x: x < 5, lambda x: x >= 2 ** (width - 1), lambda x: bin(x).count("1") % 2 == 1,
        lambda x: bin(x).count("1") == 2, lambda x: x * x % 7 in (1, 2), lambda x: x * 37 % 11 < 4,
        lambda x: x in (1, 6, 2 ** width - 3), lambda x: x & 5 == 4,
    ]
    return [(width, tuple(x for x in everything if rule(x))) for rule in rules]
