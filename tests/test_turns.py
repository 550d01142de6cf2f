import inspect
import unittest
from itertools import product

from tests.cases import LotCase
from tests.samples import (
    WIDTHS, full_lot, lots_of, odd_values, pairs_of_lots, sample_lots, turned_by_hand, turns_by_hand)
from xorturns import turns
from xorturns.errors import NoIndex
from xorturns.turns import (
    base_of, count_turned, each_turned, judge, judge_holds, keepers, least_turned, turned_at, turns_between)


def closure(masks):
    """All masks that these combine to, none of them included."""
    reached = {0}
    while True:
        more = {x ^ y for x in reached for y in masks} | reached
        if more == reached:
            return reached
        reached = more


def turned_lots(lot):
    """All different turned lots in ascending order of their tuples of masks."""
    made = {turned_by_hand(lot, mask) for mask in range(2 ** lot[0])}
    return sorted(made, key=lambda each: each[1])


def row_choices(one, other):
    """For each row of a right answer the pairs that may stand there."""
    first = min(one[1])
    return [[(mask, x) for x in one[1] if x ^ mask not in other[1]] for mask in sorted(first ^ y for y in other[1])]


def judged(one, other):
    """What judge must return."""
    found = turns_by_hand(one, other)
    if found:
        return ("turn", min(found))
    if len(one[1]) != len(other[1]):
        return ("sizes", len(one[1]), len(other[1]))
    return ("blocks", tuple(min(choice) for choice in row_choices(one, other)))


class InterfaceTest(unittest.TestCase):

    def test_names_and_parameters(self):
        wanted = {
            "keepers": "(lot)", "base_of": "(lot)", "turns_between": "(one, other)", "judge": "(one, other)",
            "judge_holds": "(one, other, value)", "least_turned": "(lot)", "count_turned": "(lot)",
            "each_turned": "(lot)", "turned_at": "(lot, index)",
        }
        for name, parameters in wanted.items():
            with self.subTest(name):
                self.assertEqual(str(inspect.signature(getattr(turns, name))), parameters)

    def test_each_turned_is_a_generator(self):
        self.assertTrue(inspect.isgeneratorfunction(each_turned))
        self.assertTrue(inspect.isgenerator(each_turned((2, (0, 3)))))


class ExamplesTest(unittest.TestCase):

    def test_keepers(self):
        values = [keepers((2, (0, 3))), base_of((2, (0, 3))), keepers((2, (0, 1, 2))), base_of((2, ()))]
        self.assertEqual(repr(values), "[(0, 3), (3,), (0,), (1, 2)]")

    def test_turns_between(self):
        values = [turns_between((2, (0, 3)), (2, (1, 2))), turns_between((2, (0, 1)), (2, (0, 3)))]
        self.assertEqual(repr(values), "[(1, 2), ()]")

    def test_judge(self):
        values = [judge((2, (0, 3)), (2, (1, 2))), judge((2, (0,)), (2, (0, 3))), judge((2, (0, 1)), (2, (0, 3)))]
        self.assertEqual(repr(values), "[('turn', 1), ('sizes', 1, 2), ('blocks', ((0, 1), (3, 1)))]")

    def test_judge_holds(self):
        values = [judge_holds((2, (0, 3)), (2, (1, 2)), ('turn', 2)),
                  judge_holds((2, (0, 1)), (2, (0, 3)), ('blocks', ((0, 1),)))]
        self.assertEqual(repr(values), "[True, False]")

    def test_least_turned(self):
        values = [least_turned((3, (2, 3, 5))), count_turned((3, (2, 3, 5))), count_turned((2, (0, 3)))]
        self.assertEqual(repr(values), "[(3, (0, 1, 6)), 8, 2]")

    def test_each_turned(self):
        values = [list(each_turned((2, (0, 3)))), turned_at((2, (0, 1, 2)), 3)]
        self.assertEqual(repr(values), "[[(2, (0, 3)), (2, (1, 2))], (2, (1, 2, 3))]")


class KeepersTest(LotCase):

    def test_keepers_and_base(self):
        for width in WIDTHS:
            for lot in sample_lots(width):
                keeping = turns_by_hand(lot, lot)
                base = tuple(m for m in keeping if m not in closure([k for k in keeping if k < m]))
                self.check_call(keeping, keepers, lot)
                self.check_call(base, base_of, lot)
                self.assertEqual(2 ** len(base), len(keeping))

    def test_the_empty_and_the_full_lot(self):
        for width in WIDTHS:
            for lot in ((width, ()), full_lot(width)):
                self.check_call(tuple(range(2 ** width)), keepers, lot)
                self.check_call(tuple(2 ** bit for bit in range(width)), base_of, lot)

    def test_one_keeper_and_several(self):
        self.check_call((0,), keepers, (6, (0, 1, 2)))
        self.check_call((), base_of, (6, (0, 1, 2)))
        self.check_call((0, 3, 5, 6), keepers, (3, (1, 2, 4, 7)))
        self.check_call((3, 5), base_of, (3, (1, 2, 4, 7)))
        self.check_call((0, 63), keepers, (6, (9, 54)))
        self.check_call((63,), base_of, (6, (9, 54)))
        self.check_call((0, 7, 25, 30, 42, 45, 51, 52), keepers, (6, (0, 7, 25, 30, 42, 45, 51, 52)))
        self.check_call((7, 25, 42), base_of, (6, (0, 7, 25, 30, 42, 45, 51, 52)))


class TurnsBetweenTest(LotCase):

    def test_pairs_of_lots(self):
        for width in WIDTHS:
            found = 0
            for one, other in pairs_of_lots(width):
                self.check_call(turns_by_hand(one, other), turns_between, one, other)
                found += len(turns_by_hand(one, other)) > 0
            self.assertTrue(0 < found < len(pairs_of_lots(width)))

    def test_the_empty_and_the_full_lot(self):
        for width in WIDTHS:
            every = tuple(range(2 ** width))
            self.check_call(every, turns_between, (width, ()), (width, ()))
            self.check_call(every, turns_between, full_lot(width), full_lot(width))
            self.check_call((), turns_between, (width, ()), full_lot(width))
            self.check_call((), turns_between, (width, (0,)), (width, ()))
            self.check_call((1,), turns_between, (width, (0,)), (width, (1,)))

    def test_other_widths(self):
        self.check_other_widths(turns_between)


class JudgeTest(LotCase):

    def test_pairs_of_lots(self):
        for width in WIDTHS:
            names = set()
            for one, other in pairs_of_lots(width):
                self.check_call(judged(one, other), judge, one, other)
                self.check_call(True, judge_holds, one, other, judge(one, other))
                names.add(judge(one, other)[0])
            self.assertEqual(names, {"turn", "sizes", "blocks"} if width > 1 else {"turn", "sizes"})

    def test_the_empty_lot(self):
        for width in WIDTHS:
            self.check_call(("turn", 0), judge, (width, ()), (width, ()))
            self.check_call(("sizes", 0, 1), judge, (width, ()), (width, (1,)))
            self.check_call(("sizes", 2, 0), judge, (width, (0, 1)), (width, ()))

    def test_rows_are_in_ascending_order(self):
        self.check_call(("blocks", ((0, 6), (5, 7), (6, 7))), judge, (3, (5, 6, 7)), (3, (0, 3, 5)))

    def test_other_widths(self):
        self.check_other_widths(judge)

    def test_least_turn(self):
        self.check_call(("turn", 1), judge, (2, (0, 3)), (2, (1, 2)))
        self.check_call(("turn", 4), judge, (3, (0, 1, 2, 3)), (3, (4, 5, 6, 7)))


class JudgeHoldsTest(LotCase):

    def refuse(self, one, other, *values):
        for value in values:
            self.check_call(False, judge_holds, one, other, value)

    def test_turns(self):
        for width in WIDTHS:
            for one, other in pairs_of_lots(width)[::2]:
                right = turns_by_hand(one, other)
                for mask in range(-1, 2 ** width + 1):
                    self.check_call(mask in right, judge_holds, one, other, ("turn", mask))

    def test_no_turns(self):
        for width in WIDTHS:
            for lot in ((width, ()), full_lot(width), (width, (0, 1))):
                for wrong in (2 ** width, -1, -2, 10 ** 40 - 1, *odd_values()):
                    self.refuse(lot, lot, ("turn", wrong))
                self.refuse(lot, lot, ["turn", 0], ("turn",), ("turn", 0, 0), ("Turn", 0), (0, "turn"), ("turns", 0))
                self.refuse(lot, lot, (None, 0), (True, 0), (["turn"], 0), (("turn",), 0), {"turn": 0}, "turn", 0)

    def test_sizes(self):
        for width in WIDTHS:
            for one, other in pairs_of_lots(width)[::3]:
                many, more = len(one[1]), len(other[1])
                self.check_call(many != more, judge_holds, one, other, ("sizes", many, more))
                self.refuse(one, other, ("sizes", many + 1, more), ("sizes", many, more - 1), ["sizes", many, more])
                if many != more:
                    self.refuse(one, other, ("sizes", more, many))

    def test_wrong_sizes(self):
        one, other = (2, (3,)), (2, (0, 3))
        self.check_call(True, judge_holds, one, other, ("sizes", 1, 2))
        self.refuse(one, other, ("sizes", True, 2), ("sizes", 1), ("sizes", 1, 2, 3), ("sizes", (1, 2)), ("size", 1, 2))
        self.refuse((2, ()), one, ("sizes", False, 1), ("sizes", 0, True), ("sizes", False, True))
        self.check_call(True, judge_holds, (2, ()), one, ("sizes", 0, 1))
        for wrong in odd_values():
            self.refuse(one, other, ("sizes", wrong, 2), ("sizes", 1, wrong), ("sizes", wrong, wrong))

    def test_rows_with_any_right_mask(self):
        for width in WIDTHS:
            for one, other in pairs_of_lots(width):
                if one[1] and other[1] and all(row_choices(one, other)):
                    choices = row_choices(one, other)
                    for rows in (map(min, choices), map(max, choices), [row[len(row) // 2] for row in choices]):
                        self.check_call(True, judge_holds, one, other, ("blocks", tuple(rows)))

    def test_all_rows_of_small_lots(self):
        for one in lots_of(2):
            for other in lots_of(2):
                right = set(product(*row_choices(one, other))) if one[1] and other[1] else set()
                rows = [(mask, x) for mask in range(4) for x in range(4)]
                for many in range(3):
                    for chosen in product(rows, repeat=many):
                        if judge_holds(one, other, ("blocks", chosen)) is not (chosen in right):
                            self.fail((one, other, chosen))

    def test_rows_that_are_changed(self):
        checked = 0
        for width in WIDTHS[1:]:
            for one, other in pairs_of_lots(width)[::3]:
                value = judge(one, other)
                if value[0] == "blocks":
                    checked += 1
                    self.check_changed_rows(one, other, value[1])
        self.assertGreater(checked, 30)

    def check_changed_rows(self, one, other, rows):
        self.refuse(one, other, ("blocks", list(rows)), ["blocks", rows], ("blocks",), ("blocks", rows, 1), rows)
        self.refuse(one, other, ("block", rows), ("turn", rows), ("blocks", ()), ("blocks", rows + rows))
        for at in range(0, len(rows), len(rows) // 6 + 1):
            before, (mask, x), after = rows[:at], rows[at], rows[at + 1:]
            for wrong in ([mask, x], (mask,), (mask, x, x), (mask, None), (None, x), (mask, str(x)), None, mask):
                self.refuse(one, other, ("blocks", (*before, wrong, *after)))
            self.refuse(one, other, ("blocks", before + after), ("blocks", (*before, rows[at], rows[at], *after)))
            if at > 0:
                self.refuse(one, other, ("blocks", (rows[at], *before, *after)),
                            ("blocks", (*before, rows[at - 1], *after)))
            for y in range(-1, 2 ** one[0] + 1):
                right = y in one[1] and y ^ mask not in other[1]
                self.check_call(right, judge_holds, one, other, ("blocks", (*before, (mask, y), *after)))
                if y != mask:
                    self.refuse(one, other, ("blocks", (*before, (y, x), *after)))

    def test_bools_in_rows(self):
        one, other = (2, (0, 1)), (2, (0, 3))
        self.check_call(True, judge_holds, one, other, ("blocks", ((0, 1), (3, 1))))
        self.refuse(one, other, ("blocks", ((False, 1), (3, 1))), ("blocks", ((0, True), (3, 1))),
                    ("blocks", ((0, 1), (3, True))))
        one, other = (2, (0, 2)), (2, (0, 1))
        self.check_call(True, judge_holds, one, other, ("blocks", ((0, 2), (1, 2))))
        self.refuse(one, other, ("blocks", ((0, 2), (True, 2))), ("blocks", ((False, 2), (True, 2))))

    def test_rows_for_lots_of_other_sizes(self):
        self.check_call(True, judge_holds, (2, (0, 1, 2)), (2, (0, 3)), ("blocks", ((0, 1), (3, 1))))
        self.check_call(True, judge_holds, (2, (0, 1, 2)), (2, (0, 3)), ("blocks", ((0, 2), (3, 2))))
        self.check_call(True, judge_holds, (2, (0, 1)), (2, (3,)), ("blocks", ((3, 1),)))
        self.refuse((2, (0,)), (2, (0, 3)), ("blocks", ((0, 0), (3, 0))), ("blocks", ((0, 1), (3, 1))))

    def test_rows_for_empty_lots(self):
        for width in WIDTHS:
            for one, other in (((), ()), ((), (0,)), ((0,), ()), ((0, 1), ())):
                self.refuse((width, one), (width, other), ("blocks", ()), ("blocks", ((0, 0),)), ("blocks", ((1, 0),)))

    def test_values_of_all_other_kinds(self):
        for width in WIDTHS:
            for one, other in (((), ()), ((0,), (0, 1)), ((0, 1), (0,)), ((0,), (0,))):
                for value in (0, 1, -1, 10 ** 40 - 1, *odd_values()):
                    if value != ("turn", 1):
                        self.refuse((width, one), (width, other), value)
                    self.refuse((width, one), (width, other), ("turn", value, value), (value, 0), (value, 1, 2))
                    self.refuse((width, one), (width, other), ("blocks", value), ("blocks", (value,)))

    def test_other_widths(self):
        for value in (("turn", 0), ("sizes", 1, 2), None, 0, [], ("blocks", ())):
            self.check_other_widths(judge_holds, value)


class TurnedLotsTest(LotCase):

    def test_lots_of_each_width(self):
        for width in WIDTHS:
            for lot in sample_lots(width):
                wanted = turned_lots(lot)
                self.check_call(wanted[0], least_turned, lot)
                self.check_call(len(wanted), count_turned, lot)
                self.check_call(wanted, lambda each: list(each_turned(each)), lot)
                for index in range(0, len(wanted), max(1, len(wanted) // 5)):
                    self.check_call(wanted[index], turned_at, lot, index)
                self.check_call(wanted[-1], turned_at, lot, len(wanted) - 1)

    def test_the_empty_and_the_full_lot(self):
        for width in WIDTHS:
            for lot in ((width, ()), full_lot(width)):
                self.check_call(lot, least_turned, lot)
                self.check_call(1, count_turned, lot)
                self.assertEqual(list(each_turned(lot)), [lot])
                self.check_call(lot, turned_at, lot, 0)

    def test_one_keeper_and_several(self):
        self.check_call(64, count_turned, (6, (0, 1, 2)))
        self.check_call(8, count_turned, (6, (0, 7, 25, 30, 42, 45, 51, 52)))
        self.check_call(2, count_turned, (6, tuple(range(32))))

    def test_least_turned_lots_tell_whether_a_turn_leads(self):
        for width in WIDTHS:
            for one, other in pairs_of_lots(width):
                with self.subTest(one=one, other=other):
                    self.assertEqual(least_turned(one) == least_turned(other), len(turns_by_hand(one, other)) > 0)

    def test_read_again_left_early_and_by_turns(self):
        one, other = (6, (0, 1, 2)), (3, (1, 2, 4, 7))
        steps = each_turned(one)
        self.assertEqual(next(steps), turned_lots(one)[0])
        self.assertEqual(next(steps), turned_lots(one)[1])
        steps.close()
        self.assertEqual(list(each_turned(one)), turned_lots(one))
        first, second, third = each_turned(one), each_turned(other), each_turned(one)
        self.assertEqual(next(third), turned_lots(one)[0])
        self.assertEqual(list(zip(first, second)), list(zip(turned_lots(one), turned_lots(other))))
        self.assertEqual(list(third), turned_lots(one)[1:])
        self.assertEqual(list(third), [])

    def test_no_index(self):
        for width in WIDTHS:
            for lot in ((width, ()), full_lot(width), (width, (0,)), (width, (0, 1))):
                many = len(turned_lots(lot))
                for value in (-1, -many, many, many + 1, 10 ** 40 - 1, 1 - 10 ** 40, *odd_values()):
                    with self.subTest(lot=lot, value=value):
                        self.check_raises(NoIndex, "value", value, turned_at, lot, value)


if __name__ == "__main__":
    unittest.main()
