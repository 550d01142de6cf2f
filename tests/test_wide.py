import inspect
import unittest
from itertools import combinations, product
from random import Random

from tests.cases import LotCase
from tests.samples import WIDTHS, full_lot, lots_of, odd_values, sample_lots
from xorturns import wide as module
from xorturns.errors import NoIndex, NoMask, OtherWidth, TooWide
from xorturns.lots import turned
from xorturns.sums import sum_of
from xorturns.turns import keepers
from xorturns.wide import (
    count_masks, first_difference, has_mask, is_wide, lot_of, mask_at, mask_index, patterns_of, wide_error, wide_keeps,
    wide_sum, wide_turned)

LONG = 40
NO_NUMBERS = odd_values()


def masks_of(wide):
    """All masks of a wide lot that is not wide, ascending."""
    masks = set()
    for pattern in wide:
        masks |= {int("".join(digits), 2) for digits in product(*["01" if c == "?" else c for c in pattern])}
    return sorted(masks)


def drawn_pattern(source, width, share):
    """A pattern with about this share of ?, in percent."""
    return "".join("?" if source.randrange(100) < share else source.choice("01") for place in range(width))


def drawn_wide_lots(width, many):
    """So many wide lots, always the same ones, with few and with many ? and patterns, some of them twice."""
    source = Random(100 * width + many)
    lots = []
    for number in range(many):
        share = (0, 20, 50, 70, 85, 95, 100)[number % 7]
        patterns = [drawn_pattern(source, width, share) for place in range(source.randint(1, 6))]
        if number % 5 == 0:
            patterns[-1] = patterns[0]
        lots.append(tuple(patterns))
    return lots


def met(patterns):
    """The pattern of what fits all of these, None if nothing does."""
    characters = []
    for column in zip(*patterns):
        digits = set(column) - {"?"}
        if len(digits) == 2:
            return None
        characters.append(digits.pop() if digits else "?")
    return "".join(characters)


def fitting_below(pattern, bound):
    """How many of the numbers below the bound fit one pattern."""
    if bound >= 2 ** len(pattern):
        return 2 ** pattern.count("?")
    many = 0
    for at, digit in enumerate(format(bound, "b").zfill(len(pattern))):
        if digit == "1" and pattern[at] in "0?":
            many += 2 ** pattern[at + 1:].count("?")
        if pattern[at] not in (digit, "?"):
            break
    return many


def count_below(wide, bound):
    """How many masks of the wide lot are below the bound: all patterns, less what fits two, and so on."""
    many = 0
    for size in range(1, len(wide) + 1):
        for chosen in combinations(sorted(wide), size):
            common = met(chosen)
            if common is not None:
                many += (-1) ** (size + 1) * fitting_below(common, bound)
    return many


def small_wide_lots(width):
    return drawn_wide_lots(width, 42)


def overlapping():
    """Wide lots of 40 characters with many masks, the patterns of which overlap in many ways."""
    ends = ["?" * at + "0" + "?" * (5 - at) for at in range(6)]
    other_ends = [end.replace("0", "1") for end in ends]
    return [
        ("?" * LONG,), ("?" * LONG, "0" * LONG), ("0" * LONG,), ("1" * LONG, "0" * LONG),
        ("0" + "?" * 39, "1" + "?" * 39), ("0" + "?" * 39, "?" * 39 + "0"), ("?0" * 20, "0?" * 20, "1?" * 20),
        tuple(ends[at] + "?" * 28 + other_ends[at] for at in range(6)),
        tuple("?" * 34 + end for end in ends), tuple(end + "?" * 34 for end in other_ends),
        tuple("?" * (6 * at) + "01" * 3 + "?" * (34 - 6 * at) for at in range(6)),
        tuple("?" * (39 - at) + "1" + "0" * at for at in range(6)),
        *drawn_wide_lots(LONG, 28),
    ]


class InterfaceTest(unittest.TestCase):

    def test_names_and_parameters(self):
        wanted = {
            "is_wide": "(value)", "wide_error": "(value)", "has_mask": "(wide, mask)", "count_masks": "(wide)",
            "mask_at": "(wide, index)", "mask_index": "(wide, mask)", "wide_turned": "(wide, mask)",
            "wide_sum": "(one, other)", "first_difference": "(one, other)", "wide_keeps": "(wide, mask)",
            "lot_of": "(wide)", "patterns_of": "(lot)",
        }
        for name, parameters in wanted.items():
            with self.subTest(name):
                self.assertEqual(str(inspect.signature(getattr(module, name))), parameters)


class ExamplesTest(unittest.TestCase):

    def test_is_wide(self):
        values = [is_wide(('0?1', '1??')), wide_error(('0?', '1')), wide_error(('2',)), wide_error(())]
        self.assertEqual(repr(values), "[True, (1, 'pattern'), (0, 'pattern'), (None, 'wide')]")

    def test_has_mask(self):
        values = [has_mask(('0?1', '1??'), 5), has_mask(('0?1', '1??'), 2), count_masks(('0?1', '1??')),
                  count_masks(('?' * 40, '0' * 40))]
        self.assertEqual(repr(values), "[True, False, 6, 1099511627776]")

    def test_mask_at(self):
        self.assertEqual(repr([mask_at(('0?1', '1??'), 2), mask_index(('0?1', '1??'), 7)]), "[4, 5]")

    def test_wide_turned(self):
        values = [wide_turned(('0?1', '1??'), 5), wide_sum(('01', '1?'), ('11',))]
        self.assertEqual(repr(values), "[('1?0', '0??'), ('0?', '10')]")

    def test_first_difference(self):
        values = [first_difference(('0?',), ('00', '01')), first_difference(('0?',), ('?0',)),
                  wide_keeps(('0?', '10'), 1), wide_keeps(('?0',), 2)]
        self.assertEqual(repr(values), "[None, 1, False, True]")

    def test_lot_of(self):
        values = [lot_of(('0?1', '11?')), patterns_of((3, (1, 6)))]
        self.assertEqual(repr(values), "[(3, (1, 3, 6, 7)), ('001', '110')]")


class WideErrorTest(LotCase):

    def check(self, wanted, value):
        self.check_call(wanted, wide_error, value)
        self.check_call(wanted is None, is_wide, value)

    def test_numbers_of_patterns(self):
        for pattern in ("0", "1", "?", "0?1", "?" * 40, "01?1" * 10):
            self.check((None, "wide"), ())
            for many in range(1, 7):
                self.check(None, (pattern,) * many)
            for many in (7, 8, 100):
                self.check((None, "wide"), (pattern,) * many)
                self.check((None, "wide"), (pattern,) * (many - 1) + (None,))

    def test_numbers_of_characters(self):
        for width in range(1, 41):
            self.check(None, ("?" * width, "0" * width, "1" * width))
        for pattern in ("", "?" * 41, "0" * 42, "1" * 2000):
            self.check((0, "pattern"), (pattern,))
            self.check((0, "pattern"), (pattern, pattern))
            self.check((0, "pattern"), (pattern, "0"))
            self.check((1, "pattern"), ("0", pattern))
            self.check((2, "pattern"), ("0" * 40, "1" * 40, pattern, "0"))

    def test_different_lengths(self):
        self.check((1, "pattern"), ("00", "0", "00"))
        self.check((1, "pattern"), ("0", "00", "0"))
        self.check((3, "pattern"), ("00", "??", "11", "1"))
        self.check((5, "pattern"), ("0",) * 5 + ("01",))
        self.check((1, "pattern"), ("0", "01", "2"))
        self.check((1, "pattern"), ("?" * 40, "?" * 39))

    def test_other_characters(self):
        for character in "23456789 abOIl*!/>@\n\"'-+_.":
            self.check((0, "pattern"), (character,))
            self.check((1, "pattern"), ("0101", "010" + character))
            self.check((1, "pattern"), ("0101", character + "101", "0"))
            self.check((0, "pattern"), ("?" * 39 + character,))

    def test_values_of_all_other_kinds(self):
        for value in (0, 1, -1, 10 ** 40 - 1, *odd_values()):
            if isinstance(value, tuple) and 1 <= len(value) <= 6:
                self.check((0, "pattern"), value)
            else:
                self.check((None, "wide"), value)
            if value != "0":
                self.check((0, "pattern"), (value,))
                self.check((0, "pattern"), (value, "0"))
                self.check((1, "pattern"), ("0", value, None))
        self.check((None, "wide"), ["0?"])
        self.check((None, "wide"), "0?")
        self.check((None, "wide"), {"0": "1"})
        self.check((0, "pattern"), (("0", "1"),))
        self.check((0, "pattern"), (["0"], "1"))
        self.check((1, "pattern"), ("01", ["0", "1"]))
        self.check((1, "pattern"), ("01", ("0", "1")))


class SmallWidthsTest(LotCase):
    """Small widths, beside the functions on lots for all masks."""

    def test_masks(self):
        for width in range(1, 9):
            for wide in small_wide_lots(width):
                masks = masks_of(wide)
                self.check_call(len(masks), count_masks, wide)
                for mask in range(2 ** width):
                    self.check_call(mask in masks, has_mask, wide, mask)
                for index in range(0, len(masks), len(masks) // 9 + 1):
                    self.check_call(masks[index], mask_at, wide, index)
                    self.check_call(index, mask_index, wide, masks[index])
                self.check_call(masks[-1], mask_at, wide, len(masks) - 1)
                self.check_call(len(masks) - 1, mask_index, wide, masks[-1])

    def test_turned(self):
        for width in WIDTHS:
            for wide in small_wide_lots(width):
                lot = (width, tuple(masks_of(wide)))
                keeping = keepers(lot)
                for mask in range(0, 2 ** width, (1, 1, 1, 1, 1, 1, 3)[width]):
                    result = self.called(wide_turned, wide, mask)
                    self.assertEqual((width, tuple(masks_of(result))), turned(lot, mask))
                    self.assertEqual([p.replace("1", "0") for p in result], [p.replace("1", "0") for p in wide])
                    self.check_call(mask in keeping, wide_keeps, wide, mask)

    def test_sums_and_differences(self):
        for width in WIDTHS:
            several = small_wide_lots(width)
            alike = 0
            for one, other in zip(several * 3, several[1:] + several[5:] + several[2:] + several):
                both = (width, tuple(masks_of(one))), (width, tuple(masks_of(other)))
                result = self.called(wide_sum, one, other)
                self.assertEqual((width, tuple(masks_of(result))), sum_of(*both))
                self.assertEqual(result, tuple(sorted(set(result))))
                different = set(both[0][1]) ^ set(both[1][1])
                self.check_call(min(different) if different else None, first_difference, one, other)
                self.check_call(min(different) if different else None, first_difference, other, one)
                alike += not different
            self.assertTrue(0 < alike < len(several) * 3)

    def test_same_masks_by_other_patterns(self):
        for width in WIDTHS:
            for lot in lots_of(width):
                if 1 <= len(lot[1]) <= 6:
                    wide = patterns_of(lot)
                    self.check_call(None, first_difference, wide, wide[::-1])
                    if len(wide) < 6:
                        self.check_call(None, first_difference, wide, (*wide, wide[0]))
        for width in range(2, 41):
            split = tuple("0" * at + "1" + "?" * (width - at - 1) for at in range(min(width, 5)))
            split += ("0" * min(width, 5) + "?" * (width - min(width, 5)),)
            self.check_call(None, first_difference, ("?" * width,), split)
            self.check_call(None, first_difference, split, ("?" * width,))
            self.check_call(0, first_difference, split[:-1], split)

    def test_lot_of(self):
        for width in WIDTHS:
            for wide in small_wide_lots(width):
                self.check_lot(self.called(lot_of, wide), width, masks_of(wide))
            self.check_call(full_lot(width), lot_of, ("?" * width,))
            self.check_call((width, (0,)), lot_of, ("0" * width,) * 6)

    def test_too_wide(self):
        for width in (7, 8, 39, 40):
            for patterns in (("?" * width,), ("0" * width,), ("0" * width, "1" * width)):
                self.check_raises(TooWide, "limit", 6, lot_of, patterns)

    def test_patterns_of(self):
        for width in WIDTHS:
            for lot in sample_lots(width):
                wanted = tuple(format(mask, "b").zfill(width) for mask in lot[1])
                self.check_call(wanted, patterns_of, lot)
                if 1 <= len(lot[1]) <= 6:
                    self.check_call(lot, lot_of, wanted)
            self.check_call((), patterns_of, (width, ()))
            self.assertEqual(len(patterns_of(full_lot(width))), 2 ** width)


class LongTest(LotCase):
    """The width 40, with many masks and with patterns that overlap."""

    def test_masks(self):
        source = Random(40)
        for wide in overlapping():
            many = count_below(wide, 2 ** LONG)
            self.check_call(many, count_masks, wide)
            for index in {0, many // 3, many // 2, many - 1, source.randrange(many), source.randrange(many)}:
                mask = self.called(mask_at, wide, index)
                self.assertEqual((count_below(wide, mask), count_below(wide, mask + 1)), (index, index + 1))
                self.check_call(index, mask_index, wide, mask)
                self.check_call(True, has_mask, wide, mask)
            for mask in [0, 2 ** LONG - 1] + [source.randrange(2 ** LONG) for again in range(8)]:
                index = count_below(wide, mask)
                if count_below(wide, mask + 1) > index:
                    self.check_call(True, has_mask, wide, mask)
                    self.check_call(index, mask_index, wide, mask)
                    self.check_call(mask, mask_at, wide, index)
                else:
                    self.check_call(False, has_mask, wide, mask)
                    self.check_raises(NoMask, "value", mask, mask_index, wide, mask)

    def check_difference(self, one, other):
        result = self.called(first_difference, one, other)
        bound = 2 ** LONG if result is None else result
        # Below it all masks are in both: then there are as many as in one of them, and as in the other.
        self.assertEqual({count_below(wide, bound) for wide in (one, other, tuple({*one, *other}))},
                         {count_below(one, bound)})
        if result is not None:
            self.assertNotEqual(has_mask(one, result), has_mask(other, result))
        return result

    def test_differences(self):
        several = [wide[:4] for wide in overlapping()]
        for one, other in zip(several, several[1:] + several[:1]):
            self.check_difference(one, other)
            self.check_difference(other, one)
        for one in overlapping():
            self.check_call(None, first_difference, one, one[::-1])
            if len(one) < 6:
                self.check_call(None, first_difference, one, (*one, one[0]))

    def test_differences_of_one_mask(self):
        source = Random(41)
        whole = "?" * LONG
        for again in range(10):
            mask = source.randrange(2 ** LONG)
            digits = format(mask, "b").zfill(LONG)
            cut = sorted(source.sample(range(LONG), 4))
            # All masks with other digits than this one somewhere up to the last cut, in several pieces.
            pieces = tuple(whole[:at] + ("1" if digits[at] == "0" else "0") + whole[at + 1:] for at in cut)
            least = "".join(digits[at] if at in cut else "0" for at in range(LONG))
            self.check_call(int(least, 2), first_difference, pieces, (whole,))
            self.check_call(int(least, 2), first_difference, (whole,), pieces)
            kept = "".join(digits[at] if at in cut else "?" for at in range(LONG))
            self.check_call(None, first_difference, (*pieces, kept), (whole,))
            self.check_call(None, first_difference, (whole, kept), (kept, *pieces))

    def test_turned_and_kept(self):
        source = Random(42)
        for wide in overlapping():
            for mask in [0, 1, 2 ** 39, 2 ** LONG - 1] + [source.randrange(2 ** LONG) for again in range(4)]:
                result = self.called(wide_turned, wide, mask)
                self.assertEqual(wide_turned(result, mask), wide)
                self.assertEqual(count_below(result, 2 ** LONG), count_below(wide, 2 ** LONG))
                some = mask_at(wide, source.randrange(count_masks(wide)))
                self.assertTrue(has_mask(result, some ^ mask))
                found = wide_keeps(wide, mask)
                self.check_call(first_difference(wide, result) is None, wide_keeps, wide, mask)
                if len(wide) <= 4:
                    self.assertEqual(found, self.check_difference(wide, result) is None)
            free = sum(2 ** (LONG - 1 - at) for at in range(LONG) if all(pattern[at] == "?" for pattern in wide))
            self.check_call(True, wide_keeps, wide, free)
            self.check_call(True, wide_keeps, wide, 0)
        self.check_call(True, wide_keeps, ("0" + "?" * 39, "1" + "?" * 39), 2 ** 39)
        self.check_call(True, wide_keeps, ("01" + "?" * 38, "10" + "?" * 38), 3 * 2 ** 38)
        self.check_call(False, wide_keeps, ("01" + "?" * 38, "10" + "?" * 38), 2 ** 38)
        self.check_call(True, wide_keeps, ("0" * LONG, "1" * LONG), 2 ** LONG - 1)
        self.check_call(False, wide_keeps, ("0" * LONG, "1" * LONG), 2 ** LONG - 2)

    def test_sums(self):
        source = Random(43)
        several = overlapping()
        for one, other in zip(several, several[3:] + several[:3]):
            result = self.called(wide_sum, one, other)
            made = set()
            for first in one:
                for second in other:
                    made.add("".join("?" if "?" in (x, y) else str(int(x) ^ int(y)) for x, y in zip(first, second)))
            self.assertEqual(result, tuple(sorted(made)))
            for again in range(5):
                x = mask_at(one, source.randrange(count_masks(one)))
                y = mask_at(other, source.randrange(count_masks(other)))
                self.assertTrue(has_mask(result, x ^ y))


class WrongValuesTest(LotCase):

    def wide_lots(self):
        return [("0",), ("?", "1"), ("0?1", "1??"), ("?" * 6,), ("0" * 40,), ("?" * 40, "0" * 40)]

    def test_no_index(self):
        for wide in self.wide_lots():
            many = count_masks(wide)
            for value in (-1, -many, many, many + 1, 10 ** 40 - 1, 1 - 10 ** 40, *NO_NUMBERS):
                self.check_raises(NoIndex, "value", value, mask_at, wide, value)

    def test_no_mask(self):
        for wide in self.wide_lots():
            end = 2 ** len(wide[0])
            for value in (-1, -end, end, end + 1, 10 ** 40 - 1, 1 - 10 ** 40, *NO_NUMBERS):
                self.check_call(False, has_mask, wide, value)
                for function in (mask_index, wide_turned, wide_keeps):
                    self.check_raises(NoMask, "value", value, function, wide, value)

    def test_masks_of_the_width_that_a_wide_lot_does_not_have(self):
        self.check_raises(NoMask, "value", 2, mask_index, ("0?1", "1??"), 2)
        self.check_raises(NoMask, "value", 1, mask_index, ("0" * 40,), 1)
        self.check_call(("1?1", "0??"), wide_turned, ("0?1", "1??"), 4)
        self.check_call(("0" * 39 + "1",), wide_turned, ("0" * 40,), 1)
        self.check_call(False, wide_keeps, ("0" * 40,), 1)

    def test_bools_are_no_masks_and_no_indexes(self):
        for value in (True, False):
            self.check_call(False, has_mask, ("?",), value)
            self.check_raises(NoIndex, "value", value, mask_at, ("?",), value)
            for function in (mask_index, wide_turned, wide_keeps):
                self.check_raises(NoMask, "value", value, function, ("?",), value)

    def test_other_widths(self):
        for function in (wide_sum, first_difference):
            for one, other in combinations((1, 2, 6, 7, 39, 40), 2):
                for character in "01?":
                    self.check_raises(OtherWidth, "index", 1, function, (character * one,), (character * other,))
                    self.check_raises(OtherWidth, "index", 1, function, (character * other,) * 6, (character * one,))


if __name__ == "__main__":
    unittest.main()
