import inspect
import unittest

from tests.cases import LotCase
from tests.samples import WIDTHS, lots_of, odd_values
from xorturns import lots
from xorturns.errors import NoLots, NoMask, OtherWidth
from xorturns.lots import is_lot, left_over, lot_error, rest_of, shared, turned, united


class InterfaceTest(unittest.TestCase):

    def test_names_and_parameters(self):
        wanted = {
            "is_lot": "(value)", "lot_error": "(value)", "turned": "(lot, mask)", "rest_of": "(lot)",
            "left_over": "(one, other)", "united": "(*lots)", "shared": "(*lots)",
        }
        for name, parameters in wanted.items():
            with self.subTest(name):
                self.assertEqual(str(inspect.signature(getattr(lots, name))), parameters)


class ExamplesTest(unittest.TestCase):

    def test_is_lot(self):
        values = [is_lot((2, (0, 3))), lot_error((2, (0, 4))), lot_error((2, (1, 1))), lot_error((7, ())),
                  lot_error((2, [0])), lot_error(5)]
        self.assertEqual(repr(values), "[True, (1, 'mask'), (1, 'mask'), (None, 'width'), (None, 'masks'), "
                                       "(None, 'lot')]")

    def test_turned(self):
        self.assertEqual(repr([turned((3, (0, 1, 6)), 3), turned((2, ()), 1)]), "[(3, (2, 3, 5)), (2, ())]")

    def test_rest_of(self):
        values = [rest_of((2, (0, 3))), left_over((2, (0, 3)), (2, (1, 3)))]
        self.assertEqual(repr(values), "[(2, (1, 2)), (2, (0,))]")

    def test_united(self):
        values = [united((2, (0,)), (2, (3,)), (2, (0, 1))), shared((2, (0, 1)), (2, (1, 2)))]
        self.assertEqual(repr(values), "[(2, (0, 1, 3)), (2, (1,))]")


class LotErrorTest(LotCase):

    def check(self, value, wanted):
        with self.subTest(value=value):
            self.assertEqual(repr(self.called(lot_error, value)), repr(wanted))
            self.assertIs(self.called(is_lot, value), wanted is None)

    def test_lots_of_each_width(self):
        for width in WIDTHS:
            self.check((width, ()), None)
            self.check((width, tuple(range(2 ** width))), None)
            self.check((width, (2 ** width - 1,)), None)
            for lot in lots_of(width):
                self.check(lot, None)

    def test_no_tuple_of_two_items(self):
        for value in odd_values():
            if not (isinstance(value, tuple) and len(value) == 2):
                self.check(value, (None, "lot"))
        for value in (0, -1, 2, 10 ** 40 - 1, (2, (0,), ()), (7, [0], 1), ((2, (0,)),), [2, (0,)], [7, [0]], "20"):
            self.check(value, (None, "lot"))

    def test_no_width(self):
        for width in (0, 7, -1, 8, 64, 10 ** 40 - 1, 1 - 10 ** 40, *odd_values()):
            for masks in ((), (0,), (0, 0), [0], None, 5):
                self.check((width, masks), (None, "width"))

    def test_no_tuple_of_masks(self):
        for width in WIDTHS:
            for masks in (0, 1, -1, 10 ** 40 - 1, *odd_values()):
                if not isinstance(masks, tuple):
                    self.check((width, masks), (None, "masks"))

    def test_masks_beyond_the_bounds(self):
        for width in WIDTHS:
            end = 2 ** width
            for wrong in (-1, end, end + 1, -end, 10 ** 40 - 1, 1 - 10 ** 40):
                self.check((width, (wrong,)), (0, "mask"))
                self.check((width, (0, wrong)), (1, "mask"))
                self.check((width, (0, 1, wrong)), (2, "mask"))
                self.check((width, (wrong, wrong)), (0, "mask"))
            self.check((width, tuple(range(end + 1))), (end, "mask"))
            self.check((width, tuple(range(-1, end))), (0, "mask"))

    def test_masks_that_do_not_ascend(self):
        for width in WIDTHS:
            end = 2 ** width
            for first in range(end):
                for second in range(end):
                    self.check((width, (first, second)), None if first < second else (1, "mask"))
        self.check((3, (0, 2, 1)), (2, "mask"))
        self.check((3, (0, 2, 2, 3)), (2, "mask"))
        self.check((3, (5, 6, 0, 1)), (2, "mask"))
        self.check((6, (1, 9, 30, 63, 62, 64)), (4, "mask"))
        self.check((6, (1, 9, 30, 63, 64, 62)), (4, "mask"))

    def test_items_that_are_no_integers(self):
        for width in WIDTHS:
            for wrong in odd_values():
                self.check((width, (wrong,)), (0, "mask"))
                self.check((width, (0, wrong)), (1, "mask"))
                self.check((width, (0, 1, wrong, 0)), (2, "mask"))
                self.check((width, (wrong, wrong)), (0, "mask"))

    def test_bools_are_no_integers(self):
        self.check((True, ()), (None, "width"))
        self.check((True, (0, 1)), (None, "width"))
        self.check((False, ()), (None, "width"))
        self.check((1, (False,)), (0, "mask"))
        self.check((1, (False, True)), (0, "mask"))
        self.check((1, (0, True)), (1, "mask"))


class TurnedTest(LotCase):

    def test_each_mask(self):
        for width in WIDTHS:
            for lot in lots_of(width):
                for mask in range(2 ** width):
                    with self.subTest(lot=lot, mask=mask):
                        result = self.called(turned, lot, mask)
                        self.check_lot(result, width, [x ^ mask for x in lot[1]])
                        self.assertEqual(turned(result, mask), lot)

    def test_no_mask(self):
        for width in WIDTHS:
            for lot in ((width, ()), (width, (0, 1)), (width, tuple(range(2 ** width)))):
                for value in (-1, 2 ** width, 2 ** width + 1, 10 ** 40 - 1, 1 - 10 ** 40, *odd_values()):
                    with self.subTest(lot=lot, value=value):
                        self.check_raises(NoMask, "value", value, turned, lot, value)

    def test_keepers_and_different_turned_lots(self):
        # Point [2] (a): the masks that keep a lot are closed, and their number says how many turned lots there are.
        for width in WIDTHS:
            for lot in lots_of(width):
                with self.subTest(lot=lot):
                    made = [turned(lot, mask) for mask in range(2 ** width)]
                    keeping = [mask for mask in range(2 ** width) if made[mask] == lot]
                    self.assertEqual({x ^ y for x in keeping for y in keeping}, set(keeping))
                    self.assertEqual(bin(len(keeping)).count("1"), 1)
                    self.assertEqual(len(set(made)) * len(keeping), 2 ** width)

    def test_all_turns_are_one_of_them_combined_with_keepers(self):
        # Point [2] (b), as far as it speaks of a lot and its turned lots.
        for width in WIDTHS:
            for lot in lots_of(width)[::5]:
                made = [turned(lot, mask) for mask in range(2 ** width)]
                keeping = [mask for mask in range(2 ** width) if made[mask] == lot]
                for turn, other in enumerate(made):
                    with self.subTest(lot=lot, turn=turn):
                        turns = [mask for mask in range(2 ** width) if made[mask] == other]
                        self.assertEqual(turns, sorted(turn ^ mask for mask in keeping))


class RestTest(LotCase):

    def test_rest_of(self):
        for width in WIDTHS:
            everything = tuple(range(2 ** width))
            self.check_lot(rest_of((width, ())), width, everything)
            self.check_lot(rest_of((width, everything)), width, ())
            for lot in lots_of(width):
                with self.subTest(lot=lot):
                    self.check_lot(self.called(rest_of, lot), width, set(everything) - set(lot[1]))
                    self.assertEqual(rest_of(rest_of(lot)), lot)

    def test_left_over(self):
        for width in WIDTHS:
            several = lots_of(width)
            for one in several[::7] + several[-1:] if width == 3 else several:
                for other in several:
                    with self.subTest(one=one, other=other):
                        self.check_lot(self.called(left_over, one, other), width, set(one[1]) - set(other[1]))

    def test_left_over_of_the_empty_and_the_full_lot(self):
        for width in WIDTHS:
            none, full = (width, ()), (width, tuple(range(2 ** width)))
            for lot in lots_of(width):
                with self.subTest(lot=lot):
                    self.assertEqual(left_over(lot, none), lot)
                    self.assertEqual(left_over(lot, full), none)
                    self.assertEqual(left_over(lot, lot), none)
                    self.assertEqual(left_over(none, lot), none)
                    self.assertEqual(left_over(full, lot), rest_of(lot))

    def test_left_over_of_other_widths(self):
        self.check_other_widths(left_over)


class TogetherTest(LotCase):

    def check_together(self, width, *several):
        rows = [set(lot[1]) for lot in several]
        with self.subTest(several=several):
            self.check_lot(self.called(united, *several), width, set().union(*rows))
            self.check_lot(self.called(shared, *several), width, rows[0].intersection(*rows))

    def test_one_lot_and_the_same_lot_twice(self):
        for width in WIDTHS:
            for lot in lots_of(width):
                self.check_together(width, lot)
                self.check_together(width, lot, lot)
                self.assertEqual([united(lot), shared(lot), united(lot, lot), shared(lot, lot)], [lot] * 4)

    def test_several_lots(self):
        for width in WIDTHS:
            several = lots_of(width)
            step = len(several) // 16 + 1
            for one in several[::step]:
                for other in several[::-step]:
                    self.check_together(width, one, other)
                    self.check_together(width, one, other, several[1], several[-2])
            self.check_together(width, *several)
            self.check_together(width, *several[1:])

    def test_the_empty_and_the_full_lot(self):
        for width in WIDTHS:
            none, full = (width, ()), (width, tuple(range(2 ** width)))
            for lot in lots_of(width):
                with self.subTest(lot=lot):
                    self.assertEqual([united(lot, none), shared(lot, none)], [lot, none])
                    self.assertEqual([united(lot, full), shared(lot, full)], [full, lot])
                    self.assertEqual([united(lot, rest_of(lot)), shared(lot, rest_of(lot))], [full, none])

    def test_shared_is_decided_by_every_lot(self):
        everything = (3, tuple(range(8)))
        for place in range(5):
            several = [everything] * 5
            several[place] = (3, (2, 6))
            self.assertEqual(shared(*several), (3, (2, 6)))
            several = [(3, (5,))] * 5
            several[place] = (3, (0, 7))
            self.assertEqual(united(*several), (3, (0, 5, 7)))

    def test_without_lots(self):
        self.check_raises(NoLots, None, None, united)
        self.check_raises(NoLots, None, None, shared)

    def test_other_widths(self):
        for function in (united, shared):
            for first in WIDTHS:
                for second in WIDTHS:
                    for place in range(1, 6):
                        if first != second:
                            several = [(first, (0, 1))] * place + [(second, (0, 1)), (first, ()), (7 - second, ())]
                            with self.subTest(function=function, several=several):
                                self.check_raises(OtherWidth, "index", place, function, *several)
            self.check_raises(OtherWidth, "index", 1, function, (2, ()), (3, ()), (2, ()), (3, ()))
            self.check_raises(OtherWidth, "index", 2, function, (2, ()), (2, ()), (1, ()), (6, ()))


if __name__ == "__main__":
    unittest.main()
