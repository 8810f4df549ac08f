"""Bolts, rows and cuttings: the points [29] to [32]."""

import itertools
import random
import time
import unittest

from helpers import fault_of
from sewnwhole.bolts import best_cutting, flaw_of_cutting, row_length
from sewnwhole.errors import CutError, SewnError

PIECES = [(4, 6), (3, 5), (6, 2), (2, 2)]


def length_by_words(pieces, row, width, turned):
    """Return the length of a row by the words of [29] and [30], trying all ways to lay its pieces."""
    laid = [pieces[number] for number in row]
    ways = itertools.product((False, True) if turned else (False,), repeat=len(laid))
    lengths = []
    for way in ways:
        sides = [piece[::-1] if turn else piece for piece, turn in zip(laid, way)]
        if sum(side[0] for side in sides) <= width:
            lengths.append(max(side[1] for side in sides))
    return min(lengths, default=None)


def all_cuttings(many):
    """Return the list of all cuttings of so many pieces, whether their rows fit or not."""
    found = [[]]
    for number in range(many):
        found = [grown for rows in found for grown in
                 [[*rows[:at], (*rows[at], number), *rows[at + 1:]] for at in range(len(rows))] + [[*rows, (number,)]]]
    return [tuple(rows) for rows in found]


def best_by_search(pieces, width, turned):
    """Return the pair (length, cutting) of the best of all cuttings."""
    choices = []
    for cutting in all_cuttings(len(pieces)):
        lengths = [length_by_words(pieces, row, width, turned) for row in cutting]
        if None not in lengths:
            choices.append((sum(lengths), len(cutting), cutting))
    length, _, cutting = min(choices)
    return length, cutting


def flaw_by_words(pieces, width, cutting, turned):
    """Return the flaw of a cutting by the words of [32]."""
    for place, row in enumerate(cutting):
        before = [number for other in cutting[:place] for number in other]
        if len(row) == 0:
            return place, "empty row"
        if list(row) != sorted(set(row)):
            return place, "not ascending"
        if not set(row) <= set(range(len(pieces))):
            return place, "no such piece"
        if set(row) & set(before):
            return place, "laid twice"
        if place and row[0] < cutting[place - 1][0]:
            return place, "rows out of order"
        if length_by_words(pieces, row, width, turned) is None:
            return place, "does not fit"
    if len([number for row in cutting for number in row]) < len(pieces):
        return len(cutting), "piece left out"
    return None


class RowLengthTest(unittest.TestCase):
    def test_the_greatest_length(self):
        self.assertEqual(row_length(PIECES, (0,), 8), 6)
        self.assertEqual(row_length(PIECES, (0, 1), 8), 6)
        self.assertEqual(row_length(PIECES, (2, 3), 8), 2)
        self.assertEqual(row_length(PIECES, (1, 3), 8), 5)

    def test_just_the_width_and_one_less(self):
        self.assertEqual(row_length(PIECES, (0, 1), 7), 6)
        self.assertIsNone(row_length(PIECES, (0, 1), 6))
        self.assertEqual(row_length([(1000, 1), (1000, 1000)], (0, 1), 2000), 1000)
        self.assertIsNone(row_length([(1000, 1), (1000, 1000)], (0, 1), 1999))
        self.assertEqual(row_length([(5, 9)], (0,), 5), 9)
        self.assertIsNone(row_length([(5, 9)], (0,), 4))

    def test_pieces_that_may_be_turned(self):
        # Lying the other way the piece is wider than the bolt, so that it has to be turned, and the longer.
        self.assertIsNone(row_length([(6, 3)], (0,), 5))
        self.assertEqual(row_length([(6, 3)], (0,), 5, turned=True), 6)
        self.assertEqual(row_length([(6, 3)], (0,), 6, turned=True), 3)
        self.assertEqual(row_length([(3, 6)], (0,), 6, turned=True), 3)
        self.assertEqual(row_length([(3, 6)], (0,), 5, turned=True), 6)
        self.assertIsNone(row_length([(3, 6)], (0,), 2, turned=True))

    def test_each_piece_may_be_turned_on_its_own(self):
        self.assertEqual(row_length([(4, 6), (6, 3)], (0, 1), 7, turned=True), 6)
        self.assertEqual(row_length([(4, 6), (6, 3)], (0, 1), 12, turned=True), 4)
        self.assertEqual(row_length([(4, 6), (6, 3)], (0, 1), 11, turned=True), 6)
        self.assertIsNone(row_length([(4, 6), (6, 3)], (0, 1), 6, turned=True))

    def test_turning_is_told_by_name_and_not_done_otherwise(self):
        self.assertEqual(row_length([(6, 3)], (0,), 6, turned=False), 3)
        self.assertIsNone(row_length([(6, 3)], (0,), 5, turned=False))
        with self.assertRaises(TypeError):
            row_length([(6, 3)], (0,), 5, True)

    def test_all_ways_to_lay_the_pieces(self):
        lot = random.Random(291)
        for _ in range(400):
            pieces = [(lot.randint(1, 9), lot.randint(1, 9)) for _ in range(lot.randint(1, 6))]
            row = tuple(sorted(lot.sample(range(len(pieces)), lot.randint(1, len(pieces)))))
            width = lot.randint(1, 30)
            for turned in (False, True):
                self.assertEqual(row_length(pieces, row, width, turned=turned),
                                 length_by_words(pieces, row, width, turned))


class BestCuttingTest(unittest.TestCase):
    def test_the_examples(self):
        self.assertEqual(best_cutting(PIECES, 8), (8, ((0, 1), (2, 3))))
        self.assertEqual(best_cutting([(4, 6), (6, 3)], 7, turned=True), (6, ((0, 1),)))

    def test_no_pieces(self):
        self.assertEqual(best_cutting([], 1), (0, ()))
        self.assertEqual(best_cutting([], 2000, turned=True), (0, ()))

    def test_one_piece(self):
        self.assertEqual(best_cutting([(5, 9)], 5), (9, ((0,),)))
        self.assertEqual(best_cutting([(5, 9)], 9, turned=True), (5, ((0,),)))

    def test_ties_go_to_the_fewest_rows(self):
        self.assertEqual(best_cutting([(3, 4), (3, 4), (3, 4), (3, 4)], 6), (8, ((0, 1), (2, 3))))
        self.assertEqual(best_cutting([(1, 2), (2, 2), (3, 2)], 6), (2, ((0, 1, 2),)))
        # Turned and alone in its row, each piece adds its lesser side, as much as both add beside each other.
        self.assertEqual(best_cutting([(2, 4), (2, 4)], 4, turned=True), (4, ((0, 1),)))

    def test_ties_go_to_the_first_in_lexicographic_order(self):
        self.assertEqual(best_cutting([(2, 5), (2, 5), (2, 5)], 4), (10, ((0,), (1, 2))))
        self.assertEqual(best_cutting([(1, 5), (2, 5), (2, 5)], 4), (10, ((0,), (1, 2))))
        self.assertEqual(best_cutting([(1, 5), (3, 5), (3, 5)], 4), (10, ((0, 1), (2,))))
        # A row comes before those that continue it.
        self.assertEqual(best_cutting([(1, 5), (1, 5), (1, 5), (2, 5)], 3), (10, ((0, 1), (2, 3))))
        self.assertEqual(best_cutting([(1, 1)] * 5, 3), (2, ((0, 1), (2, 3, 4))))

    def test_ties_against_the_plain_search(self):
        lot = random.Random(311)
        for _ in range(150):
            pieces = [(lot.randint(1, 3), lot.randint(1, 2)) for _ in range(lot.randint(1, 5))]
            width = lot.randint(3, 6)
            for turned in (False, True):
                self.assertEqual(best_cutting(pieces, width, turned=turned), best_by_search(pieces, width, turned))

    def test_a_plain_search_over_all_cuttings(self):
        lot = random.Random(312)
        for _ in range(150):
            pieces = [(lot.randint(1, 12), lot.randint(1, 12)) for _ in range(lot.randint(0, 5))]
            width = lot.randint(12, 30)
            for turned in (False, True):
                self.assertEqual(best_cutting(pieces, width, turned=turned), best_by_search(pieces, width, turned))

    def test_more_pieces_against_the_plain_search(self):
        lot = random.Random(313)
        for many in (6, 7):
            pieces = [(lot.randint(1, 5), lot.randint(1, 4)) for _ in range(many)]
            for turned in (False, True):
                self.assertEqual(best_cutting(pieces, 7, turned=turned), best_by_search(pieces, 7, turned))

    def test_too_wide(self):
        self.assertEqual(fault_of(CutError, best_cutting, [(5, 1)], 4), ("too wide", 0))
        self.assertEqual(fault_of(CutError, best_cutting, [(4, 9), (5, 1), (6, 1)], 4), ("too wide", 1))
        self.assertEqual(fault_of(CutError, best_cutting, PIECES, 5), ("too wide", 2))
        self.assertEqual(fault_of(CutError, best_cutting, PIECES, 1), ("too wide", 0))
        self.assertIsNone(fault_of(CutError, best_cutting, PIECES, 6))
        self.assertTrue(issubclass(CutError, SewnError))

    def test_too_wide_even_if_turned(self):
        self.assertIsNone(fault_of(CutError, best_cutting, [(4, 9), (5, 1)], 4, turned=True))
        self.assertEqual(fault_of(CutError, best_cutting, [(4, 9), (9, 5), (5, 5)], 4, turned=True), ("too wide", 1))
        self.assertEqual(best_cutting([(9, 4)], 4, turned=True), (9, ((0,),)))

    def test_nine_pieces_in_time(self):
        lot = random.Random(314)
        begin = time.perf_counter()
        for turned in (False, True):
            pieces = [(lot.randint(1, 1000), lot.randint(1, 1000)) for _ in range(9)]
            length, cutting = best_cutting(pieces, 2000, turned=turned)
            self.assertIsNone(flaw_of_cutting(pieces, 2000, cutting, turned=turned))
            self.assertEqual(length, sum(row_length(pieces, row, 2000, turned=turned) for row in cutting))
        self.assertLess(time.perf_counter() - begin, 10)

    def test_the_arguments_and_the_kinds_of_values(self):
        pieces = list(PIECES)
        length, cutting = best_cutting(pieces, 8)
        self.assertEqual(pieces, PIECES)
        self.assertEqual((type(length), type(cutting), {type(row) for row in cutting}), (int, tuple, {tuple}))
        with self.assertRaises(TypeError):
            best_cutting(pieces, 8, True)


class FlawOfCuttingTest(unittest.TestCase):
    def assert_flaw(self, cutting, expected, pieces=None, width=8, turned=False):
        pieces = PIECES if pieces is None else pieces
        self.assertEqual(flaw_of_cutting(pieces, width, cutting, turned=turned), expected, cutting)
        self.assertEqual(flaw_by_words(pieces, width, cutting, turned), expected, cutting)

    def test_none(self):
        self.assert_flaw(((0, 1), (2, 3)), None)
        self.assert_flaw(((0,), (1,), (2,), (3,)), None)
        self.assert_flaw(((0, 3), (1,), (2,)), None)
        self.assert_flaw((), None, pieces=[])

    def test_empty_row(self):
        self.assert_flaw(((),), (0, "empty row"))
        self.assert_flaw(((0, 1), (), (2, 3)), (1, "empty row"))
        self.assert_flaw(((),), (0, "empty row"), pieces=[])

    def test_not_ascending(self):
        self.assert_flaw(((1, 0), (2, 3)), (0, "not ascending"))
        self.assert_flaw(((0, 0), (2, 3)), (0, "not ascending"))
        self.assert_flaw(((0,), (1, 3, 2)), (1, "not ascending"))
        self.assert_flaw(((0, 9, 9),), (0, "not ascending"))

    def test_no_such_piece(self):
        for number in (4, 5, 10 ** 20):
            self.assert_flaw(((number,),), (0, "no such piece"))
            self.assert_flaw(((0, 1), (2, number)), (1, "no such piece"))
        for number in (-1, -4, -10 ** 20):
            self.assert_flaw(((number,),), (0, "no such piece"))
            self.assert_flaw(((number, 0), (1,)), (0, "no such piece"))
            self.assert_flaw(((0,), (number, 1)), (1, "no such piece"))
        self.assert_flaw(((0,),), (0, "no such piece"), pieces=[])

    def test_laid_twice(self):
        self.assert_flaw(((0, 1), (1, 2), (3,)), (1, "laid twice"))
        self.assert_flaw(((0,), (1,), (2, 3), (0,)), (3, "laid twice"))
        self.assert_flaw(((0, 1), (0, 1)), (1, "laid twice"))

    def test_rows_out_of_order(self):
        self.assert_flaw(((2, 3), (0, 1)), (1, "rows out of order"))
        self.assert_flaw(((0,), (2,), (1,), (3,)), (2, "rows out of order"))

    def test_does_not_fit(self):
        self.assert_flaw(((0, 1, 3), (2,)), (0, "does not fit"))
        self.assert_flaw(((0, 1), (2, 3)), (1, "does not fit"), width=7)
        self.assert_flaw(((0, 1), (2, 3)), (0, "does not fit"), width=6)
        self.assert_flaw(((0, 1), (2,), (3,)), None, width=7)

    def test_piece_left_out(self):
        self.assert_flaw((), (0, "piece left out"))
        self.assert_flaw(((0, 1),), (1, "piece left out"))
        self.assert_flaw(((0,), (1,), (2,)), (3, "piece left out"))
        self.assert_flaw(((1,), (2,), (3,)), (3, "piece left out"))

    def test_the_first_row_and_the_first_of_its_flaws(self):
        self.assert_flaw(((0, 1, 2), ()), (0, "does not fit"))
        self.assert_flaw(((9, 8), (-1,)), (0, "not ascending"))
        self.assert_flaw(((2,), (0, 2, 9)), (1, "no such piece"))
        self.assert_flaw(((2,), (0, 2)), (1, "laid twice"))
        self.assert_flaw(((2,), (0, 1, 3)), (1, "rows out of order"))
        self.assert_flaw(((0,), (0, 1, 2, 3)), (1, "laid twice"))
        self.assert_flaw(((3,), (1, 0)), (1, "not ascending"))

    def test_pieces_that_may_be_turned(self):
        pieces = [(4, 6), (6, 3)]
        self.assert_flaw(((0, 1),), (0, "does not fit"), pieces, 7)
        self.assert_flaw(((0, 1),), None, pieces, 7, True)
        self.assert_flaw(((0, 1),), (0, "does not fit"), pieces, 6, True)
        self.assert_flaw(((0,), (1,)), (1, "does not fit"), pieces, 5)
        self.assert_flaw(((0,), (1,)), None, pieces, 5, True)
        with self.assertRaises(TypeError):
            flaw_of_cutting(pieces, 7, ((0, 1),), True)

    def test_cuttings_by_lot(self):
        lot = random.Random(321)
        kinds = set()
        for _ in range(3000):
            pieces = [(lot.randint(1, 4), lot.randint(1, 4)) for _ in range(lot.randint(0, 4))]
            cutting = list(lot.choice(all_cuttings(len(pieces))))
            for _ in range(lot.randint(0, 2)):
                row = [lot.randint(-1, len(pieces)) for _ in range(lot.randint(0, 3))]
                cutting[lot.randint(0, len(cutting)):lot.randint(0, len(cutting))] = [tuple(row)]
            width, turned = lot.randint(2, 10), lot.random() < 0.5
            expected = flaw_by_words(pieces, width, tuple(cutting), turned)
            kinds.add(expected and expected[1])
            self.assert_flaw(tuple(cutting), expected, pieces, width, turned)
        self.assertEqual(kinds, {None, "empty row", "not ascending", "no such piece", "laid twice",
                                 "rows out of order", "does not fit", "piece left out"})

    def test_the_best_cutting_has_none(self):
        lot = random.Random(322)
        for _ in range(60):
            pieces = [(lot.randint(1, 9), lot.randint(1, 9)) for _ in range(lot.randint(0, 6))]
            for turned in (False, True):
                cutting = best_cutting(pieces, 10, turned=turned)[1]
                self.assertIsNone(flaw_of_cutting(pieces, 10, cutting, turned=turned))


if __name__ == "__main__":
    unittest.main()
