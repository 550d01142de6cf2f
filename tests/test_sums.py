import inspect
import unittest
from itertools import combinations, product

from tests.cases import LotCase
from tests.samples import WIDTHS, drawn_lots, full_lot, lots_of, odd_values, pairs_of_lots, sample_lots
from xorturns import sums
from xorturns.errors import EmptyLot, NoLots, OtherWidth
from xorturns.sums import find_bend, flat_around, greatest_addend, solution_holds, solve, sum_of


def sum_by_hand(*lots):
    masks = set()
    for choice in product(*[lot[1] for lot in lots]):
        mask = 0
        for x in choice:
            mask ^= x
        masks.add(mask)
    return (lots[0][0], tuple(sorted(masks)))


def addend_by_hand(one, other):
    return (one[0], tuple(m for m in range(2 ** one[0]) if {x ^ m for x in one[1]} <= set(other[1])))


def missed_by_hand(one, other):
    reached = sum_by_hand(one, addend_by_hand(one, other))
    return tuple(y for y in other[1] if y not in reached[1])


def solved_by_hand(one, other):
    missed = missed_by_hand(one, other)
    return ("missing", min(missed)) if missed else ("addend", addend_by_hand(one, other))


def bend_by_hand(lot):
    held = set(lot[1])
    return next(((x, y, z) for x, y, z in combinations(lot[1], 3) if x ^ y ^ z not in held), None)


def flat_by_hand(lot):
    """Puts in what is missing until the lot is flat."""
    masks = set(lot[1])
    first = min(masks)
    while True:
        more = {first ^ y ^ z for y in masks for z in masks}
        if more == masks:
            return (lot[0], tuple(sorted(masks)))
        masks = more


class InterfaceTest(unittest.TestCase):

    def test_names_and_parameters(self):
        wanted = {
            "sum_of": "(*lots)", "greatest_addend": "(one, other)", "solve": "(one, other)",
            "solution_holds": "(one, other, value)", "find_bend": "(lot)", "flat_around": "(lot)",
        }
        for name, parameters in wanted.items():
            with self.subTest(name):
                self.assertEqual(str(inspect.signature(getattr(sums, name))), parameters)


class ExamplesTest(unittest.TestCase):

    def test_sum_of(self):
        values = [sum_of((3, (0, 1)), (3, (2, 4))), sum_of((2, (1,)), (2, ())), sum_of((2, (0, 1)))]
        self.assertEqual(repr(values), "[(3, (2, 3, 4, 5)), (2, ()), (2, (0, 1))]")

    def test_solve(self):
        values = [greatest_addend((2, (0, 1)), (2, (0, 1, 2))), solve((2, (0, 1)), (2, (0, 1, 2))),
                  solve((2, (0, 1)), (2, (2, 3)))]
        self.assertEqual(repr(values), "[(2, (0, 1)), ('missing', 2), ('addend', (2, (2, 3)))]")

    def test_solution_holds(self):
        values = [solution_holds((2, (0, 1)), (2, (2, 3)), ('addend', (2, (2,)))),
                  solution_holds((2, (0, 1)), (2, (0, 1, 2)), ('missing', 1))]
        self.assertEqual(repr(values), "[True, False]")

    def test_find_bend(self):
        values = [find_bend((2, (0, 1, 2))), find_bend((2, (1, 2))), flat_around((3, (1, 2, 4)))]
        self.assertEqual(repr(values), "[(0, 1, 2), None, (3, (1, 2, 4, 7))]")


class SumTest(LotCase):

    def check(self, *lots):
        self.check_call(sum_by_hand(*lots), sum_of, *lots)

    def test_one_lot(self):
        for width in WIDTHS:
            for lot in sample_lots(width):
                self.check_call(lot, sum_of, lot)

    def test_two_lots(self):
        for width in WIDTHS:
            for one, other in pairs_of_lots(width):
                self.check(one, other)

    def test_several_lots(self):
        for width in WIDTHS:
            small = [(width, lot[1][::len(lot[1]) // 5 + 1]) for lot in drawn_lots(width, 9)]
            for at in range(7):
                self.check(*small[at:at + 3])
                self.check(*small[at:at + 2], (width, (1,)), (width, (0, 2 ** width - 1)))
                self.check(*small[at:at + 2], (width, ()), small[at])
            self.check(*[(width, (0, 2 ** bit)) for bit in range(width)])
            self.check_call((width, (1,)), sum_of, *[(width, (1,))] * 31)
            self.check_call((width, (0,)), sum_of, *[(width, (1,))] * 30)

    def test_the_empty_and_the_full_lot(self):
        for width in WIDTHS:
            none, full = (width, ()), full_lot(width)
            for lot in lots_of(width):
                self.check_call(none, sum_of, lot, none)
                self.check_call(none, sum_of, none, lot)
                self.check_call(none, sum_of, lot, full, none)
                self.check_call(full if lot[1] else none, sum_of, lot, full)
                self.check_call(lot, sum_of, (width, (0,)), lot)

    def test_without_lots(self):
        self.check_raises(NoLots, None, None, sum_of)

    def test_other_widths(self):
        self.check_other_widths(sum_of)
        for first in WIDTHS:
            for second in WIDTHS:
                for place in range(1, 5):
                    if first != second:
                        several = [(first, (0, 1))] * place + [(second, ()), (first, ()), (7 - second, (1,))]
                        self.check_raises(OtherWidth, "index", place, sum_of, *several)
        self.check_raises(OtherWidth, "index", 2, sum_of, (2, ()), (2, ()), (1, ()), (6, ()))


class SolveTest(LotCase):

    def test_pairs_of_lots(self):
        for width in WIDTHS:
            for one, other in pairs_of_lots(width):
                self.check_call(addend_by_hand(one, other), greatest_addend, one, other)
                self.check_call(solved_by_hand(one, other), solve, one, other)

    def test_sums(self):
        for width in WIDTHS:
            names = set()
            for one, addend in zip(drawn_lots(width, 20), drawn_lots(width, 21)):
                one, addend = (width, one[1][:width // 2 + 1]), (width, addend[1][:width + 1])
                other = sum_by_hand(one, addend)
                self.check_call(("addend", addend_by_hand(one, other)), solve, one, other)
                nearly = (width, other[1][1:])
                self.check_call(solved_by_hand(one, nearly), solve, one, nearly)
                names.add(solve(one, nearly)[0])
            self.assertEqual(names, {"addend", "missing"} if width > 1 else {"addend"})

    def test_the_empty_and_the_full_lot(self):
        for width in WIDTHS:
            none, full, some = (width, ()), full_lot(width), (width, (1,))
            self.check_call(("addend", full), solve, none, none)
            self.check_call(("missing", 0), solve, none, full)
            self.check_call(("missing", 1), solve, none, some)
            self.check_call(("addend", none), solve, full, none)
            self.check_call(("addend", full), solve, full, full)
            self.check_call(("addend", none), solve, some, none)
            self.check_call(("missing", 1), solve, full, some)
            self.check_call(full, greatest_addend, none, some)
            self.check_call(none, greatest_addend, full, some)

    def test_other_widths(self):
        self.check_other_widths(greatest_addend)
        self.check_other_widths(solve)


class SolutionHoldsTest(LotCase):

    def refuse(self, one, other, *values):
        for value in values:
            self.check_call(False, solution_holds, one, other, value)

    def test_what_solve_returns(self):
        for width in WIDTHS:
            for one, other in pairs_of_lots(width):
                self.check_call(True, solution_holds, one, other, solve(one, other))

    def test_any_lot_of_small_widths(self):
        for width in (1, 2):
            for one, other in pairs_of_lots(width):
                for lot in lots_of(width):
                    right = sum_by_hand(one, lot) == other
                    self.check_call(right, solution_holds, one, other, ("addend", lot))

    def test_any_lot_of_other_widths(self):
        for width in WIDTHS[2:]:
            for one, lot in pairs_of_lots(width)[::2]:
                one, lot = (width, one[1][:3]), (width, lot[1][:9])
                other = sum_by_hand(one, lot)
                self.check_call(True, solution_holds, one, other, ("addend", lot))
                for changed in ((width, lot[1][1:]), (width, lot[1][:-1]), full_lot(width), one, other):
                    right = sum_by_hand(one, changed) == other
                    self.check_call(right, solution_holds, one, other, ("addend", changed))

    def test_any_mask(self):
        for width in WIDTHS:
            for one, other in pairs_of_lots(width)[::width]:
                missed = missed_by_hand(one, other)
                for mask in (-1, *range(0, 2 ** width, width), *missed[:5], 2 ** width):
                    self.check_call(mask in missed, solution_holds, one, other, ("missing", mask))

    def test_lots_of_another_width(self):
        for width in WIDTHS:
            for other in WIDTHS:
                if other != width:
                    for masks in ((), (0,), (0, 1)):
                        self.refuse((width, (0,)), (width, masks), ("addend", (other, masks)))
                        self.refuse((width, masks), (width, ()), ("addend", (other, ())))

    def test_values_that_are_no_lots(self):
        for width in WIDTHS:
            one, other = (width, (0,)), (width, (0, 1))
            self.check_call(True, solution_holds, one, other, ("addend", other))
            for wrong in ([width, (0, 1)], (width, [0, 1]), (width, (False, 1)), (width, (0, True)), (width, (1, 0)),
                          (width, (0, 0, 1)), (width, (0, 1, 2 ** width)), (width, (-1, 0, 1)), (width,), (0, 1), 0):
                self.refuse(one, other, ("addend", wrong))
            self.refuse(one, other, ["addend", other], ("addend",), ("addend", other, other), ("Addend", other), other)
            self.refuse(one, other, ("missing", other), ("added", other), (None, other), {"addend": other})
        self.refuse((1, (0,)), (1, (0, 1)), ("addend", (True, (0, 1))))

    def test_bools_are_no_masks(self):
        one, other = (2, (0, 1, 2)), (2, (0, 1))
        self.check_call(True, solution_holds, one, other, ("missing", 0))
        self.check_call(True, solution_holds, one, other, ("missing", 1))
        self.refuse(one, other, ("missing", False), ("missing", True), ["missing", 0], ("missing", 0, 0), ("missing",))

    def test_values_of_all_other_kinds(self):
        for width in WIDTHS:
            for one, other in (((), ()), ((), (0, 1)), ((0,), (0,)), ((0, 1), (0,))):
                one, other = (width, one), (width, other)
                for value in (0, -1, 10 ** 40 - 1, *odd_values()):
                    self.refuse(one, other, value, (value, 0), (value, other), (value,), ("addend", value))
                    if value != 0 or isinstance(value, bool):
                        self.refuse(one, other, ("missing", value))

    def test_other_widths(self):
        for value in (("addend", (1, ())), ("missing", 0), None, 0, []):
            self.check_other_widths(solution_holds, value)


class FlatTest(LotCase):

    def test_lots_of_each_width(self):
        for width in WIDTHS:
            flat = 0
            for lot in sample_lots(width):
                self.check_call(bend_by_hand(lot), find_bend, lot)
                if lot[1]:
                    self.check_call(flat_by_hand(lot), flat_around, lot)
                    self.check_call(None, find_bend, flat_by_hand(lot))
                    flat += bend_by_hand(lot) is None
            self.assertGreater(flat, 1)

    def test_nearly_flat_lots(self):
        for width in WIDTHS[1:]:
            for lot in lots_of(width)[1:]:
                masks = flat_by_hand((width, lot[1][:3]))[1]
                for at in range(len(masks)):
                    nearly = (width, masks[:at] + masks[at + 1:])
                    self.check_call(bend_by_hand(nearly), find_bend, nearly)
                    if len(masks) > 2:
                        self.check_call((width, masks), flat_around, nearly)

    def test_the_empty_and_the_full_lot(self):
        for width in WIDTHS:
            self.check_call(None, find_bend, (width, ()))
            self.check_call(None, find_bend, full_lot(width))
            self.check_call(full_lot(width), flat_around, full_lot(width))
            self.check_raises(EmptyLot, None, None, flat_around, (width, ()))

    def test_one_and_two_masks_are_flat(self):
        for width in WIDTHS:
            for x in range(2 ** width):
                for y in range(x, 2 ** width):
                    lot = (width, tuple(sorted({x, y})))
                    self.check_call(None, find_bend, lot)
                    self.check_call(lot, flat_around, lot)


if __name__ == "__main__":
    unittest.main()
