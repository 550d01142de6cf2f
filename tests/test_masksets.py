import inspect
import unittest

from tests.cases import LotCase
from tests.samples import WIDTHS, drawn_lots, full_lot, lots_of, odd_values, pairs_of_lots
from xorturns.boards import Board
from xorturns.counts import pair_counts
from xorturns.errors import BadLot, BadWide, NoIndex, NoMask, OtherWidth, TooWide
from xorturns.lots import left_over, lot_error, rest_of, shared, turned, united
from xorturns.masksets import MaskSet
from xorturns.sums import greatest_addend, sum_of
from xorturns.turns import keepers
from xorturns.wide import lot_of, wide_error

GREAT = 10 ** 40 - 1
PROPERTIES = ("lot", "width", "masks", "keepers")
BINARY = (
    (lambda a, b: a | b, united), (lambda a, b: a & b, shared), (lambda a, b: a - b, left_over),
    (lambda a, b: a + b, sum_of), (lambda a, b: a.addend(b), greatest_addend))


def lots_to_combine(width):
    return lots_of(width) if width <= 2 else drawn_lots(width, 15) + [(width, ()), full_lot(width), (width, (0,))]


class InterfaceTest(unittest.TestCase):

    def test_methods_stand_in_the_class(self):
        names = "of_wide within addend __init__ __xor__ __or__ __and__ __sub__ __add__ __invert__ __contains__ " \
                "__getitem__ __call__ __eq__ __len__ __bool__ __str__"
        for name in names.split():
            self.assertIn(name, vars(MaskSet))
        for name in PROPERTIES:
            self.assertIsInstance(vars(MaskSet)[name], property)
        self.assertIsInstance(vars(MaskSet)["of_wide"], classmethod)

    def test_parameters(self):
        self.assertEqual(str(inspect.signature(MaskSet)), "(lot)")
        self.assertEqual(str(inspect.signature(MaskSet.of_wide)), "(value)")
        self.assertEqual(str(inspect.signature(MaskSet.within)), "(self, other)")
        self.assertEqual(str(inspect.signature(MaskSet.addend)), "(self, other)")


class ExamplesTest(unittest.TestCase):

    def test_made(self):
        values = [str(MaskSet((3, (1, 6)))), MaskSet.of_wide(("0?",)).lot]
        self.assertEqual(repr(values), "['3 bits: 001 110', (2, (0, 1))]")

    def test_properties(self):
        A = MaskSet((2, (0, 3)))
        self.assertEqual(repr([A.lot, A.width, A.masks, A.keepers]), "[(2, (0, 3)), 2, (0, 3), (0, 3)]")

    def test_operators(self):
        A, B = MaskSet((2, (0, 1))), MaskSet((2, (1, 2)))
        values = [(A ^ 3).masks, (A | B).masks, (A & B).masks, (A - B).masks, (A + B).masks, (~A).masks]
        self.assertEqual(repr(values), "[(2, 3), (0, 1, 2), (1,), (0,), (0, 1, 2, 3), (2, 3)]")

    def test_queries(self):
        A, B = MaskSet((2, (0, 1))), MaskSet((2, (0, 1, 2)))
        values = [1 in A, 2 in A, A[1], A(1), A == B, A.within(B), A.addend(B).masks, len(B), bool(A - A), str(A - A)]
        self.assertEqual(repr(values), "[True, False, 1, 2, False, True, (0, 1), 3, False, '2 bits: none']")


class MadeTest(LotCase):

    def test_lots_of_each_width(self):
        for width in WIDTHS:
            for lot in lots_of(width):
                with self.subTest(lot=lot):
                    made = MaskSet(lot)
                    self.check_lot(made.lot, width, lot[1])
                    self.assertEqual(repr([made.width, made.masks, made.keepers]),
                                     repr([width, lot[1], keepers(lot)]))

    def test_no_lots(self):
        values = [*odd_values(), 0, -1, GREAT, (7, ()), (0, ()), (True, ()), (2, (4,)), (2, (0, 0)), (2, (0, True)),
                  (2, (-1,)), (2, [0, 1]), (1, (0, 1, 2)), (6, tuple(range(65))), MaskSet((2, (0,))),
                  (2, MaskSet((2, (0,)))), (MaskSet((1, (1,))), ())]
        for value in values:
            with self.subTest(value=value):
                error = lot_error(value)
                self.assertIsNotNone(error)
                before = repr(value)
                with self.assertRaises(BadLot) as caught:
                    MaskSet(value)
                self.assertEqual(repr(caught.exception.error), repr(error))
                self.assertEqual(repr(value), before)

    def test_wide_lots(self):
        for wide in (("0",), ("?",), ("0?", "11"), ("0?", "0?"), ("??????",), ("1" * 6, "0" * 6, "??0?11"),
                     ("000", "001", "010", "011", "100", "101"), ("?0?0", "0???")):
            with self.subTest(wide=wide):
                made = MaskSet.of_wide(wide)
                self.assertIs(type(made), MaskSet)
                self.check_lot(made.lot, len(wide[0]), lot_of(wide)[1])

    def test_no_wide_lots(self):
        values = [value for value in odd_values() if wide_error(value) is not None]
        values += [5, GREAT, ("0", "2"), ("0", "00"), ("0",) * 7, ["0"], ("",), ("0", None), ("?" * 41,), ("0" * 7, "0"),
                   ("0", True), (0,), ("0 ",), ("0\n",), MaskSet((2, (0,))), (MaskSet((2, (0,))),)]
        for value in values:
            with self.subTest(value=value):
                before = repr(value)
                with self.assertRaises(BadWide) as caught:
                    MaskSet.of_wide(value)
                self.assertEqual(repr(caught.exception.error), repr(wide_error(value)))
                self.assertEqual(repr(value), before)

    def test_too_wide(self):
        for width in (7, 8, 39, 40):
            for wide in (("?" * width,), ("0" * width, "1" * width)):
                with self.subTest(wide=wide):
                    self.check_raises(TooWide, "limit", 6, MaskSet.of_wide, wide)

    def test_properties_cannot_be_assigned(self):
        for name in PROPERTIES:
            made = MaskSet((2, (0, 3)))
            with self.subTest(name):
                self.assertRaises(AttributeError, setattr, made, name, (2, (1,)))
                self.assertEqual([made.lot, made.width, made.masks, made.keepers], [(2, (0, 3)), 2, (0, 3), (0, 3)])


class OperatorsTest(LotCase):

    def check_made(self, made, lot):
        self.assertIs(type(made), MaskSet)
        self.assertEqual(repr(made.lot), repr(lot))

    def test_turned(self):
        for width in WIDTHS:
            for lot in lots_to_combine(width):
                made = MaskSet(lot)
                for mask in range(2 ** width):
                    with self.subTest(lot=lot, mask=mask):
                        self.check_made(made ^ mask, turned(lot, mask))
                        self.assertEqual(made.lot, lot)

    def test_combined(self):
        for width in WIDTHS:
            for one in lots_to_combine(width):
                for other in lots_to_combine(width):
                    first, second = MaskSet(one), MaskSet(other)
                    for combine, function in BINARY:
                        with self.subTest(one=one, other=other, function=function.__name__):
                            self.check_made(combine(first, second), function(one, other))
                            self.check_made(combine(first, second), function(one, other))
                            self.assertEqual((first.lot, second.lot), (one, other))
                    self.assertIs(first.within(second), set(one[1]) <= set(other[1]))
                    self.assertIs(first == second, one == other)
                    self.assertIs(first != second, one != other)

    def test_pairs_of_all_kinds(self):
        for width in WIDTHS:
            for one, other in pairs_of_lots(width):
                with self.subTest(one=one, other=other):
                    for combine, function in BINARY:
                        self.check_made(combine(MaskSet(one), MaskSet(other)), function(one, other))

    def test_rest(self):
        for width in WIDTHS:
            for lot in lots_of(width):
                with self.subTest(lot=lot):
                    self.check_made(~MaskSet(lot), rest_of(lot))
                    self.check_made(~~MaskSet(lot), lot)

    def test_other_widths(self):
        for first in WIDTHS:
            for second in WIDTHS:
                if first != second:
                    for masks in ((), (0,), (0, 1)):
                        one, other = MaskSet((first, masks)), MaskSet((second, masks))
                        with self.subTest(one=one.lot, other=other.lot):
                            for combine, function in BINARY:
                                self.check_raises(OtherWidth, "index", 1, combine, one, other)
                            self.check_raises(OtherWidth, "index", 1, one.within, other)
                            self.assertIs(one == other, False)

    def test_results_can_be_combined_on(self):
        A, B = MaskSet((3, (0, 1))), MaskSet((3, (2, 4)))
        self.assertEqual(((A | B) ^ 1).masks, (0, 1, 3, 5))
        self.assertEqual((~(A + B) - A).masks, (6, 7))


class QueriesTest(LotCase):

    def no_numbers(self):
        return [*odd_values(), 10 ** 39, GREAT, 1 - 10 ** 40]

    def test_no_mask(self):
        for width in WIDTHS:
            for lot in ((width, ()), (width, (0, 1)), full_lot(width)):
                made = MaskSet(lot)
                for value in (-1, 2 ** width, 2 ** width + 1, *self.no_numbers(), made):
                    with self.subTest(lot=lot, value=value):
                        self.check_raises(NoMask, "value", value, lambda x: made ^ x, value)
                        self.check_raises(NoMask, "value", value, made, value)
                        self.assertIs(value in made, False)

    def test_contained(self):
        for width in WIDTHS:
            for lot in lots_of(width):
                made = MaskSet(lot)
                with self.subTest(lot=lot):
                    for x in range(-1, 2 ** width + 2):
                        self.assertIs(x in made, x in lot[1])
        full = MaskSet(full_lot(1))
        self.assertIs(True in full, False)
        self.assertIs(False in full, False)

    def test_indexes(self):
        for width in WIDTHS:
            for lot in lots_of(width):
                made = MaskSet(lot)
                many = len(lot[1])
                with self.subTest(lot=lot):
                    self.assertEqual(repr([made[index] for index in range(many)]), repr(list(lot[1])))
                    for value in (-1, -many, many, many + 1):
                        if not 0 <= value < many:
                            self.check_raises(NoIndex, "value", value, lambda at: made[at], value)

    def test_no_indexes(self):
        for lot in ((2, ()), (2, (0, 1, 2)), full_lot(6)):
            made = MaskSet(lot)
            for value in (-1, len(lot[1]), *self.no_numbers(), made):
                with self.subTest(lot=lot, value=value):
                    self.check_raises(NoIndex, "value", value, lambda at: made[at], value)

    def test_pair_counts(self):
        for width in WIDTHS:
            for lot in lots_to_combine(width):
                made = MaskSet(lot)
                with self.subTest(lot=lot):
                    self.assertEqual(repr(tuple(made(x) for x in range(2 ** width))), repr(pair_counts(lot)))

    def test_not_iterated(self):
        for lot in ((2, ()), (2, (0, 3))):
            self.assertRaises(TypeError, iter, MaskSet(lot))
            self.assertRaises(TypeError, list, MaskSet(lot))

    def test_equal(self):
        self.assertIs(MaskSet((2, (0, 3))) == MaskSet((2, (0, 3))), True)
        self.assertIs(MaskSet((2, (0, 3))) != MaskSet((2, (0, 3))), False)
        self.assertIs(MaskSet((2, (0, 3))) == MaskSet((3, (0, 3))), False)
        self.assertIs(MaskSet((2, ())) == MaskSet((3, ())), False)
        self.assertIs(MaskSet((2, (0, 3))) == MaskSet.of_wide(("00", "11")), True)

    def test_not_equal_to_anything_else(self):
        for lot in ((2, ()), (2, (0, 3)), (1, (0, 1))):
            made = MaskSet(lot)
            for value in (*odd_values(), 0, 1, 2, lot, list(lot), lot[1], str(made), repr(made), Board(lot)):
                with self.subTest(lot=lot, value=value):
                    self.assertIs(made == value, False)
                    self.assertIs(value == made, False)
                    self.assertIs(made != value, True)

    def test_number_and_truth(self):
        for width in WIDTHS:
            for lot in lots_of(width):
                made = MaskSet(lot)
                with self.subTest(lot=lot):
                    self.assertEqual(len(made), len(lot[1]))
                    self.assertIs(bool(made), len(lot[1]) > 0)

    def test_text(self):
        self.assertEqual(str(MaskSet((1, (0, 1)))), "1 bits: 0 1")
        self.assertEqual(str(MaskSet((6, (0, 5, 63)))), "6 bits: 000000 000101 111111")
        self.assertEqual(str(MaskSet((4, (8,)))), "4 bits: 1000")
        for width in WIDTHS:
            self.assertEqual(str(MaskSet((width, ()))), f"{width} bits: none")
            for lot in lots_of(width):
                if lot[1]:
                    words = " ".join(format(x, "b").zfill(width) for x in lot[1])
                    self.assertEqual(str(MaskSet(lot)), f"{width} bits: {words}")


if __name__ == "__main__":
    unittest.main()
