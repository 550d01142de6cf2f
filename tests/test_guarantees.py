"""Point [2] of the document, (a) to (h)."""

import unittest
from itertools import product
from random import Random

from tests.cases import KINDS
from tests.samples import WIDTHS, drawn_lots, full_lot, lots_of, odd_values, pairs_of_lots
from xorturns.boards import Board
from xorturns.counts import lot_with, pair_counts, sign, signed_counts
from xorturns.lots import left_over, turned
from xorturns.masksets import MaskSet
from xorturns.sums import find_bend, greatest_addend, solution_holds, solve, sum_of
from xorturns.turns import (
    base_of, count_turned, each_turned, judge, judge_holds, keepers, least_turned, turned_at, turns_between)
from xorturns.wide import (
    count_masks, first_difference, has_mask, lot_of, mask_at, mask_index, patterns_of, wide_keeps, wide_sum,
    wide_turned)


def lots_to_check(width):
    return lots_of(width) if width <= 2 else drawn_lots(width, 40) + [(width, ()), full_lot(width)]


def within(one, other):
    return left_over(one, other)[1] == ()


class GuaranteesTest(unittest.TestCase):

    def test_a_keepers_are_closed(self):
        for width in WIDTHS:
            for lot in lots_to_check(width):
                with self.subTest(lot=lot):
                    keeping = keepers(lot)
                    self.assertEqual({x ^ y for x in keeping for y in keeping}, set(keeping))
                    self.assertEqual(len(keeping), 2 ** len(base_of(lot)))
                    self.assertEqual(count_turned(lot) * len(keeping), 2 ** width)
                    self.assertEqual(count_turned(lot), len(list(each_turned(lot))))
                    made = {turned(lot, mask) for mask in range(2 ** width)}
                    self.assertEqual({turned_at(lot, index) for index in range(count_turned(lot))}, made)
                    self.assertEqual(least_turned(lot), min(made))

    def test_b_a_turn_or_a_reason(self):
        for width in WIDTHS:
            for one, other in pairs_of_lots(width):
                with self.subTest(one=one, other=other):
                    found = turns_between(one, other)
                    self.assertEqual(judge(one, other)[0] == "turn", len(found) > 0)
                    self.assertIs(judge_holds(one, other, judge(one, other)), True)
                    for turn in found:
                        self.assertEqual(turned(one, turn), other)
                        self.assertEqual(sorted(turn ^ mask for mask in keepers(one)), list(found))
                        self.assertEqual(sorted(turn ^ mask for mask in keepers(other)), list(found))

    def test_c_signed_counts_tell_all(self):
        for width in WIDTHS:
            seen = {}
            for lot in lots_to_check(width):
                signed = signed_counts(lot)
                with self.subTest(lot=lot):
                    self.assertEqual(seen.setdefault(signed, lot), lot)
                    self.assertEqual(lot_with(width, signed), lot)
                    whole = range(2 ** width)
                    pairs = [sum(signed[u] ** 2 * sign(u, mask) for u in whole) // 2 ** width for mask in whole]
                    self.assertEqual(pair_counts(lot), tuple(pairs))
                    keeping = [mask for mask in whole if all(sign(u, mask) == 1 for u in whole if signed[u] != 0)]
                    self.assertEqual(keepers(lot), tuple(keeping))

    def test_d_equations_of_small_widths(self):
        for width in (1, 2):
            for one, other in pairs_of_lots(width):
                with self.subTest(one=one, other=other):
                    addend = greatest_addend(one, other)
                    fitting = [lot for lot in lots_of(width) if within(sum_of(one, lot), other)]
                    self.assertEqual(fitting, [lot for lot in lots_of(width) if within(lot, addend)])
                    solved = [lot for lot in fitting if sum_of(one, lot) == other]
                    self.assertEqual(solve(one, other)[0] == "addend", len(solved) > 0)
                    if solved:
                        self.assertEqual(solve(one, other), ("addend", addend))
                        self.assertIn(addend, solved)
                    else:
                        mask = solve(one, other)[1]
                        self.assertIn(mask, other[1])
                        self.assertEqual([lot for lot in fitting if mask in sum_of(one, lot)[1]], [])

    def test_d_equations_of_other_widths(self):
        for width in WIDTHS:
            source = Random(width)
            for one, other in pairs_of_lots(width)[::2]:
                with self.subTest(one=one, other=other):
                    addend = greatest_addend(one, other)
                    self.assertTrue(within(sum_of(one, addend), other))
                    found = solve(one, other)
                    if found[0] == "addend":
                        self.assertEqual(found[1], addend)
                        self.assertEqual(sum_of(one, addend), other)
                    else:
                        self.assertIn(found[1], other[1])
                        self.assertNotIn(found[1], sum_of(one, addend)[1])
                    some = (width, tuple(sorted(source.sample(range(2 ** width), width))))
                    whole = sum_of((width, one[1][:3]), some)
                    self.assertEqual(solve((width, one[1][:3]), whole)[0], "addend")
                    self.assertTrue(within(some, greatest_addend((width, one[1][:3]), whole)))

    def test_e_flat_lots_have_as_many_masks_as_keepers(self):
        for width in WIDTHS:
            for lot in lots_to_check(width):
                if lot[1]:
                    with self.subTest(lot=lot):
                        self.assertEqual(find_bend(lot) is None, len(lot[1]) == len(keepers(lot)))
            for base in product((0, 1, 3, 2 ** width - 1), repeat=3):
                flat = sum_of(*[(width, tuple(sorted({0, mask % 2 ** width}))) for mask in base])
                for lot in (flat, turned(flat, 1)):
                    with self.subTest(lot=lot):
                        self.assertIsNone(find_bend(lot))
                        self.assertEqual(len(lot[1]), len(keepers(lot)))

    def test_f_wide_lots_and_lots(self):
        for width in WIDTHS:
            several = [patterns_of(lot)[:6] for lot in lots_to_check(width) if lot[1]]
            several += [tuple(p[:-1] + "?" for p in wide) for wide in several]
            several += [("?" + wide[0][1:], *wide[1:]) for wide in several]
            for one, other in zip(several, several[7:] + several[:7]):
                with self.subTest(one=one, other=other):
                    lot, second = lot_of(one), lot_of(other)
                    self.assertEqual(count_masks(one), len(lot[1]))
                    self.assertEqual([x for x in range(2 ** width) if has_mask(one, x)], list(lot[1]))
                    self.assertEqual([mask_at(one, index) for index in range(len(lot[1]))], list(lot[1]))
                    self.assertEqual([mask_index(one, x) for x in lot[1]], list(range(len(lot[1]))))
                    for mask in range(0, 2 ** width, 3):
                        self.assertEqual(lot_of(wide_turned(one, mask)), turned(lot, mask))
                        self.assertEqual(wide_keeps(one, mask), mask in keepers(lot))
                    self.assertEqual(lot_of(wide_sum(one, other)), sum_of(lot, second))
                    different = set(lot[1]) ^ set(second[1])
                    self.assertEqual(first_difference(one, other), min(different) if different else None)

    def test_g_what_holds_is_right(self):
        rows = list(product(range(4), repeat=2))
        values = [("turn", mask) for mask in range(-1, 5)] + [("sizes", *row) for row in product(range(5), repeat=2)]
        values += [("blocks", several) for many in range(3) for several in product(rows, repeat=many)]
        for one, other in pairs_of_lots(2):
            for value in values + odd_values():
                if judge_holds(one, other, value):
                    found = turns_between(one, other)
                    right = value[1] in found if value[0] == "turn" else len(found) == 0
                    self.assertTrue(right, (one, other, value))

    def test_g_answers_for_other_lots(self):
        for width in WIDTHS:
            pairs = pairs_of_lots(width)[::4]
            answers = [judge(one, other) for one, other in pairs]
            equations = [solve(one, other) for one, other in pairs]
            for one, other in pairs:
                found = turns_between(one, other)
                for value in answers:
                    if judge_holds(one, other, value):
                        right = value[1] in found if value[0] == "turn" else len(found) == 0
                        self.assertTrue(right, (one, other, value))
                for value in equations:
                    if solution_holds(one, other, value):
                        solved = sum_of(one, value[1]) == other if value[0] == "addend" else False
                        missed = value[0] == "missing" and sum_of(one, greatest_addend(one, other)) != other
                        self.assertTrue(solved or missed, (one, other, value))

    def test_g_what_holds_of_equations_is_right(self):
        for one, other in pairs_of_lots(2):
            solved = [lot for lot in lots_of(2) if sum_of(one, lot) == other]
            values = [("addend", lot) for lot in lots_of(2) + lots_of(1)] + [("missing", x) for x in range(-1, 5)]
            for value in values + odd_values():
                if solution_holds(one, other, value):
                    right = value[1] in solved if value[0] == "addend" else len(solved) == 0
                    self.assertTrue(right, (one, other, value))


class ObjectsTest(unittest.TestCase):

    def test_a_to_c_for_sets(self):
        for width in WIDTHS:
            for one, other in pairs_of_lots(width)[::2]:
                first, second = MaskSet(one), MaskSet(other)
                with self.subTest(one=one, other=other):
                    self.assertEqual({x ^ y for x in first.keepers for y in first.keepers}, set(first.keepers))
                    turns = [mask for mask in range(2 ** width) if first ^ mask == second]
                    self.assertEqual(judge(one, other)[0] == "turn", len(turns) > 0)
                    self.assertEqual(len(turns), len(first.keepers) if turns else 0)
                    signed = signed_counts(one)
                    pairs = [sum(signed[u] ** 2 * sign(u, mask) for u in range(2 ** width)) for mask in range(2 ** width)]
                    self.assertEqual([first(mask) * 2 ** width for mask in range(2 ** width)], pairs)

    def test_d_to_f_for_sets(self):
        for width in WIDTHS:
            for one, other in pairs_of_lots(width)[::2]:
                first, second = MaskSet(one), MaskSet(other)
                with self.subTest(one=one, other=other):
                    addend = first.addend(second)
                    self.assertTrue((first + addend).within(second))
                    self.assertEqual(solve(one, other)[0] == "addend", first + addend == second)
                    if first:
                        self.assertEqual(find_bend(one) is None, len(first) == len(first.keepers))
                        self.assertEqual(MaskSet.of_wide(patterns_of(one)[:6]).masks, first.masks[:6])

    def drawn_boards(self, width, lot):
        """Boards of all kinds with this lot that come to it by other edits."""
        source = Random(repr(lot))
        boards = []
        for kind in KINDS:
            mask = source.randrange(2 ** width)
            boards.append(kind(lot))
            boards.append(kind(turned(lot, mask)))
            boards[-1].turn(mask)
            if lot[1]:
                boards.append(kind((width, lot[1][1:])))
                boards[-1].add(lot[1][0])
                boards.append(kind(lot))
                boards[-1].run([("drop", lot[1][-1]), ("turn", mask), ("turn", mask), ("add", lot[1][-1])])
            boards.append(boards[-1].copy())
            boards[-1].turn(mask)
            boards[-1].undo()
        boards.append(Board((width, tuple(x for x in range(2 ** width) if x not in lot[1]))))
        boards[-1].flip()
        return boards

    def test_h_only_the_current_lot_counts(self):
        for width in WIDTHS:
            even = tuple(x for x in range(2 ** width) if bin(x).count("1") % 2 == 0)
            for masks in (even, even[:1], even[1::3], ()):
                lot = (width, masks)
                boards = self.drawn_boards(width, lot)
                self.assertEqual({(board.lot, board.size) for board in boards}, {(lot, len(masks))})
                for mask in (*range(2 ** width), None):
                    wanted = None if mask is None else mask in keepers(lot)
                    self.assertEqual([board.look(mask) for board in boards], [wanted] * len(boards))
                    self.assertEqual([board.kept for board in boards], [wanted] * len(boards))
                other = Board(turned((width, (*masks, 2 ** width - 1) if width % 2 else masks[1:]), 0))
                for board in boards:
                    self.assertEqual([board == second for second in boards], [True] * len(boards))
                    self.assertIs(board == other, board.lot == other.lot)

    def test_h_undoing_restores_the_earlier_lots(self):
        for width in WIDTHS:
            for lot in lots_to_check(width)[:12]:
                for kind in KINDS:
                    source = Random(repr(lot))
                    board = kind((width, lot[1][:1]))
                    lots = [board.lot]
                    while board.version < 60:
                        mask = source.randrange(2 ** width)
                        edit = source.choice((("turn", mask), ("drop" if mask in board else "add", mask), ("flip",)))
                        try:
                            board.run([edit])
                        except ValueError:
                            board.run([("turn", mask)])
                        lots.append(board.lot)
                    self.assertEqual([lot for version, lot in board.walk()], lots)
                    while lots:
                        self.assertEqual(board.lot, lots.pop())
                        if lots:
                            self.assertEqual(board.undo(), len(lots) - 1)


if __name__ == "__main__":
    unittest.main()
