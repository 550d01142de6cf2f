"""Turns: the masks that keep a lot, the turns from one lot to another, and all turned lots."""

from xorturns.claims import is_claim
from xorturns.errors import NoIndex
from xorturns.lots import common_width, is_mask, is_number, turned


def keepers(lot):
    """Return the ascending tuple of the masks that keep the lot."""
    return turns_between(lot, lot)


def base_of(lot):
    """Return the ascending tuple of the keepers above 0 that smaller keepers do not combine to."""
    base = []
    reached = [0]
    for mask in keepers(lot):
        if mask not in reached:
            base.append(mask)
            reached = reached + [x ^ mask for x in reached]
    return tuple(base)


def turns_between(one, other):
    """Return the ascending tuple of all turns from one to other."""
    width = common_width((one, other))
    return tuple([mask for mask in range(1 << width) if turned(one, mask) == other])


def judge(one, other):
    """Return the least turn from one to other, or the reason why there is none."""
    turns = turns_between(one, other)
    if len(turns) > 0:
        return ("turn", turns[0])
    many, more = len(one[1]), len(other[1])
    if many != more:
        return ("sizes", many, more)
    return ("blocks", tuple([(mask, least_blocked(one, other, mask)) for mask in possible_turns(one, other)]))


def possible_turns(one, other):
    """Return, ascending, the only masks that may be turns: those that lead the least mask of one into other."""
    first = one[1][0]
    return sorted([first ^ y for y in other[1]])


def least_blocked(one, other, mask):
    """Return the least mask of one that this mask, which is no turn, does not lead into other."""
    return min([x for x in one[1] if x ^ mask not in other[1]])


def judge_holds(one, other, value):
    """Return whether the value states a turn from one to other, or a reason why there is none."""
    width = common_width((one, other))
    if is_claim(value, "turn", 2):
        return is_mask(value[1], width) and turned(one, value[1]) == other
    if is_claim(value, "sizes", 3):
        return sizes_hold(one, other, value[1], value[2])
    if is_claim(value, "blocks", 2):
        return blocks_hold(one, other, value[1])
    return False


def sizes_hold(one, other, many, more):
    """Return whether the two values are the numbers of masks, and these differ."""
    if not is_number(many) or not is_number(more):
        return False
    return many == len(one[1]) and more == len(other[1]) and many != more


def blocks_hold(one, other, rows):
    """Return whether the rows show for each possible turn that it is none."""
    # Without masks in both lots the rows would not speak of all turns.
    if len(one[1]) == 0 or len(other[1]) == 0:
        return False
    if not isinstance(rows, tuple) or len(rows) != len(other[1]):
        return False
    return all([is_block(one, other, mask, row) for mask, row in zip(possible_turns(one, other), rows)])


def is_block(one, other, mask, row):
    """Return whether the row is (mask, x) with a mask x of one that this mask does not lead into other."""
    if not isinstance(row, tuple) or len(row) != 2 or not all([is_number(item) for item in row]):
        return False
    return row[0] == mask and row[1] in one[1] and row[1] ^ mask not in other[1]


def least_turned(lot):
    """Return the turned lot with the smallest tuple of masks."""
    return turned_lots(lot)[0]


def count_turned(lot):
    """Return the number of different turned lots."""
    return (1 << lot[0]) // len(keepers(lot))


def each_turned(lot):
    """Yield all different turned lots in ascending order of their masks."""
    yield from turned_lots(lot)


def turned_at(lot, index):
    """Return the turned lot with this index among all different ones."""
    ordered = turned_lots(lot)
    if not is_number(index) or not 0 <= index < len(ordered):
        raise NoIndex(index)
    return ordered[index]


def turned_lots(lot):
    """Return the list of all different turned lots in ascending order of their masks."""
    return sorted({turned(lot, mask) for mask in range(1 << lot[0])})
