import inspect
import unittest
from itertools import permutations

from tests.cases import LotCase
from tests.samples import WIDTHS, drawn_lots, full_lot, lots_of, odd_values, sample_lots, turned_by_hand, turns_by_hand
from xorturns import counts
from xorturns.counts import lot_with, pair_counts, select, sign, signed_counts
from xorturns.errors import BadWish, NoProperty


def ones(mask):
    return bin(mask).count("1")


def pairs_by_hand(lot):
    found = [0] * 2 ** lot[0]
    for x in lot[1]:
        for y in lot[1]:
            found[x ^ y] += 1
    return tuple(found)


def signs_by_hand(lot):
    return tuple(sum((-1) ** ones(u & x) for x in lot[1]) for u in range(2 ** lot[0]))


def read_by_hand(width, value):
    """The lot with these signed counts, None if there is none."""
    if {type(x) for x in value} != {int}:
        return None
    whole = range(2 ** width)
    masks = tuple(x for x in whole if sum((-1) ** ones(u & x) * value[u] for u in whole) > 0)
    return (width, masks) if signs_by_hand((width, masks)) == value else None


def selected(lot, wanted):
    """The masks of the lot with all wanted properties."""
    pairs, keeping = pairs_by_hand(lot), turns_by_hand(lot, lot)
    tests = {
        "ones": lambda x, worth: ones(x) == worth,
        "bit": lambda x, worth: worth in [place for place in range(lot[0]) if x // 2 ** place % 2],
        "keeper": lambda x, worth: (x in keeping) is worth,
        "pairs": lambda x, worth: pairs[x] == worth,
    }
    return tuple(x for x in lot[1] if all(tests[name](x, worth) for name, worth in wanted.items()))


class InterfaceTest(unittest.TestCase):

    def test_names_and_parameters(self):
        wanted = {
            "sign": "(one, other)", "pair_counts": "(lot)", "signed_counts": "(lot)", "lot_with": "(width, value)",
            "select": "(lot, **wanted)",
        }
        for name, parameters in wanted.items():
            with self.subTest(name):
                self.assertEqual(str(inspect.signature(getattr(counts, name))), parameters)


class ExamplesTest(unittest.TestCase):

    def test_sign(self):
        self.assertEqual(repr([sign(3, 1), sign(3, 3), sign(0, 7)]), "[-1, 1, 1]")

    def test_pair_counts(self):
        values = [pair_counts((2, (0, 3))), signed_counts((2, (0, 3))), signed_counts((2, (1,)))]
        self.assertEqual(repr(values), "[(2, 0, 0, 2), (2, 0, 0, 2), (1, -1, 1, -1)]")

    def test_lot_with(self):
        values = [lot_with(2, (2, 0, 0, 2)), lot_with(2, (1, 0, 0, 0)), lot_with(2, (0, 0, 0, 0))]
        self.assertEqual(repr(values), "[(2, (0, 3)), None, (2, ())]")

    def test_select(self):
        values = [select((3, (0, 3, 5)), ones=2), select((3, (0, 3, 5)), bit=0, pairs=2),
                  select((2, (0, 3)), keeper=True), select((2, (1,)))]
        self.assertEqual(repr(values), "[(3, 5), (3, 5), (0, 3), (1,)]")


class SignTest(LotCase):

    def test_small_masks(self):
        for one in range(64):
            for other in range(64):
                self.check_call((-1) ** ones(one & other), sign, one, other)

    def test_both_bounds(self):
        most = 10 ** 12
        self.check_call(1, sign, 0, 0)
        self.check_call(1, sign, 0, most)
        self.check_call(1, sign, most, 0)
        self.check_call((-1) ** ones(most), sign, most, most)
        for one in (1, most, most - 1, 2 ** 39, 2 ** 39 - 1, 3 ** 25, 987654321012, 5 ** 17):
            for other in (1, 2 ** 39, 2 ** 38 + 1, most, most - 1, 7 ** 14, 123456789012):
                self.check_call((-1) ** ones(one & other), sign, one, other)
        self.check_call(-1, sign, 2 ** 39, 2 ** 39)
        self.check_call(1, sign, 2 ** 39 + 1, 2 ** 39 + 1)


class CountsTest(LotCase):

    def test_lots_of_each_width(self):
        for width in WIDTHS:
            for lot in sample_lots(width):
                self.check_call(pairs_by_hand(lot), pair_counts, lot)
                self.check_call(signs_by_hand(lot), signed_counts, lot)

    def test_the_empty_and_the_full_lot(self):
        for width in WIDTHS:
            many = 2 ** width
            self.check_call((0,) * many, pair_counts, (width, ()))
            self.check_call((0,) * many, signed_counts, (width, ()))
            self.check_call((many,) * many, pair_counts, full_lot(width))
            self.check_call((many,) + (0,) * (many - 1), signed_counts, full_lot(width))

    def test_counts_of_turned_lots(self):
        for width in WIDTHS:
            for lot in drawn_lots(width, 8):
                for mask in range(0, 2 ** width, width):
                    other = turned_by_hand(lot, mask)
                    with self.subTest(lot=lot, mask=mask):
                        self.assertEqual(pair_counts(other), pair_counts(lot))
                        signed = tuple(worth * sign(u, mask) for u, worth in enumerate(signed_counts(lot)))
                        self.assertEqual(signed_counts(other), signed)


class LotWithTest(LotCase):

    def test_signed_counts_of_lots(self):
        for width in WIDTHS:
            for lot in sample_lots(width):
                self.check_call(lot, lot_with, width, signs_by_hand(lot))

    def test_all_small_tuples(self):
        right = {signs_by_hand(lot): lot for lot in lots_of(1)}
        for first in range(-3, 4):
            for second in range(-3, 4):
                self.check_call(right.get((first, second)), lot_with, 1, (first, second))

    def test_one_item_changed(self):
        for width in WIDTHS:
            for lot in sample_lots(width)[::3]:
                value = signs_by_hand(lot)
                for at in range(0, len(value), width):
                    for wrong in (value[at] + 1, value[at] - 1, value[at] + 2 ** width, -value[at] or 2, 10 ** 40 - 1,
                                  None, str(value[at]), (value[at],), [value[at]]):
                        changed = (*value[:at], wrong, *value[at + 1:])
                        self.check_call(read_by_hand(width, changed), lot_with, width, changed)

    def test_sums_that_are_no_lots(self):
        # Signed counts that some other numbers of masks, twice or less than none, would have.
        for width in WIDTHS:
            for lot in sample_lots(width)[::5]:
                value = signs_by_hand(lot)
                if lot[1]:
                    self.check_call(None, lot_with, width, tuple(2 * x for x in value))
                    self.check_call(None, lot_with, width, tuple(-x for x in value))
                    self.check_call(None, lot_with, width, tuple(x * 10 ** 37 for x in value))

    def test_another_width_and_another_length(self):
        for width in WIDTHS:
            for lot in sample_lots(width)[::5]:
                value = signs_by_hand(lot)
                for other in WIDTHS:
                    if other != width:
                        self.check_call(None, lot_with, other, value)
                self.check_call(None, lot_with, width, value[:-1])
                self.check_call(None, lot_with, width, value + (0,))
                self.check_call(None, lot_with, width, ())
                self.check_call(None, lot_with, width, lot)

    def test_lists_and_bools(self):
        for width in WIDTHS:
            for lot in ((width, ()), (width, (0,)), (width, (1,)), full_lot(width)):
                value = signs_by_hand(lot)
                self.check_call(None, lot_with, width, list(value))
                self.check_call(None, lot_with, width, (list(value),))
                for at, worth in enumerate(value):
                    if worth in (0, 1):
                        self.check_call(None, lot_with, width, (*value[:at], worth == 1, *value[at + 1:]))

    def test_values_of_all_other_kinds(self):
        for width in WIDTHS:
            self.check_call(None, lot_with, width, 0)
            for value in (-1, 2 ** width + 1, 10 ** 40 - 1, *odd_values()):
                self.check_call(None, lot_with, width, value)
                self.check_call(None, lot_with, width, (value,) + (0,) * (2 ** width - 1))
                self.check_call(None, lot_with, width, (0,) * (2 ** width - 1) + (value,))


class SelectTest(LotCase):

    def check(self, lot, **wanted):
        self.check_call(selected(lot, wanted), select, lot, **wanted)

    def test_each_property_alone(self):
        for width in WIDTHS:
            for lot in sample_lots(width)[::3 if width != 3 else 9]:
                self.check(lot)
                for number in (*range(-2, width + 3), 2 ** width, 10 ** 40 - 1, 1 - 10 ** 40):
                    self.check(lot, ones=number)
                    self.check(lot, bit=number)
                    self.check(lot, pairs=number)
                self.check(lot, keeper=True)
                self.check(lot, keeper=False)

    def test_no_wish(self):
        for width in WIDTHS:
            for lot in lots_of(width):
                self.check_call(lot[1], select, lot)

    def test_several_in_several_orders(self):
        some = 0
        for width in WIDTHS:
            for lot in drawn_lots(width, 6):
                for number in range(1, 4):
                    wanted = {"ones": number, "bit": number - 1, "keeper": number == 2, "pairs": len(lot[1])}
                    if number == 1:
                        wanted["pairs"] = pairs_by_hand(lot)[1]
                    for many in (2, 3, 4):
                        for names in list(permutations(wanted, many))[::width]:
                            self.check(lot, **{name: wanted[name] for name in names})
                            some += len(selected(lot, {name: wanted[name] for name in names})) > 0
        self.assertGreater(some, 100)

    def test_bits_beyond_the_width(self):
        for width in WIDTHS:
            for bit in (-1, -2, -width, width, width + 1, 64, 10 ** 40 - 1, 1 - 10 ** 40):
                self.check_call((), select, full_lot(width), bit=bit)
            self.check_call(tuple(range(1, 2 ** width, 2)), select, full_lot(width), bit=0)
            self.check_call(tuple(range(2 ** (width - 1), 2 ** width)), select, full_lot(width), bit=width - 1)

    def test_no_property(self):
        for lot in ((1, ()), (3, (0, 3, 5)), full_lot(6)):
            for names in (["one"], ["Ones"], ["lots"], ["wanted"], ["bit", "one"], ["keepers", "pair"], ["pairs", "x"],
                          ["self"], [""], ["a b"], ["ones", "bit", "keeper", "pairs", "name", "value"]):
                first = next(name for name in names if name not in ("ones", "bit", "keeper", "pairs"))
                for value in (0, True, None, [0]):
                    with self.subTest(lot=lot, names=names, value=value):
                        wanted = {name: value for name in names}
                        with self.assertRaises(NoProperty) as caught:
                            select(lot, **wanted)
                        self.assertEqual(caught.exception.name, first)
        self.check_raises(NoProperty, "name", "size", select, (2, ()), ones="wrong", size=1, keeper=1, other=2)
        self.check_raises(NoProperty, "name", "size", select, (2, ()), size=None, ones=None)

    def test_bad_wish(self):
        for lot in ((1, ()), (3, (0, 3, 5)), full_lot(6)):
            for value in odd_values():
                for name in ("ones", "bit", "pairs"):
                    self.check_raises(BadWish, "value", value, select, lot, **{name: value})
                if not isinstance(value, bool):
                    self.check_raises(BadWish, "value", value, select, lot, keeper=value)
            for value in (0, 1, -1, 10 ** 40 - 1):
                self.check_raises(BadWish, "value", value, select, lot, keeper=value)

    def test_the_first_bad_wish(self):
        wrong = {"ones": ["a"], "bit": ("b",), "keeper": {"c": 0}, "pairs": "d" * 3}
        right = {"ones": 1, "bit": 0, "keeper": True, "pairs": 2}
        for names in permutations(wrong):
            self.check_raises(BadWish, "value", wrong[names[0]], select, (3, (1, 2)), **{n: wrong[n] for n in names})
            for at in range(4):
                wishes = {n: right[n] if place < at else wrong[n] for place, n in enumerate(names)}
                self.check_raises(BadWish, "value", wrong[names[at]], select, (3, (1, 2)), **wishes)
        self.check_raises(BadWish, "value", True, select, (2, (1,)), keeper=False, ones=True, bit=False)
        self.check_raises(BadWish, "value", 1, select, (2, (1,)), bit=0, keeper=1, ones=None)


if __name__ == "__main__":
    unittest.main()
