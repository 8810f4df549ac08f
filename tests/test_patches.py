"""Patches, whether they fit, strips, neighbors and transformed patches: the points [12], [14] and [15]."""

import itertools
import random
import unittest

from helpers import PINWHEEL, cells_of_rectangle, chance_patches, partitions
from sewnwhole.errors import PatchError, SewnError
from sewnwhole.patches import (
    check_patches, fits, merged_strips, neighbors, row_strips, seam_length, sides, transformed_patches,
)
from sewnwhole.patterns import read_pattern
from sewnwhole.symmetries import composed, inverse, transformed


def number_grid(patches):
    """Return the rows of the numbers of the patches that the cells belong to, as a pattern of plain cells."""
    numbers = {cell: "abcdefghijklmnopqrstuvwxyz"[number]
               for number, patch in enumerate(patches) for cell in cells_of_rectangle(patch)}
    rows, columns = max(row for row, _ in numbers) + 1, max(column for _, column in numbers) + 1
    return tuple(tuple(numbers[row, column] for column in range(columns)) for row in range(rows))


def first_fault(rows):
    """Return the pair (what, place) for the first fault of a list of rectangles, or None, by the words of [12]."""
    taken = set()
    for place, (top, left, height, width) in enumerate(rows):
        if height < 1 or width < 1:
            return "empty", place
        if top < 0 or left < 0 or top + height - 1 > 9 or left + width - 1 > 9:
            return "outside", place
        cells = cells_of_rectangle((top, left, height, width))
        if cells & taken:
            return "overlaps an earlier one", place
        taken |= cells
    if not rows:
        return "no patches", -1
    last_row, last_column = max(row for row, _ in taken), max(column for _, column in taken)
    if any(cell not in taken for cell in itertools.product(range(last_row + 1), range(last_column + 1))):
        return "gap", -1
    return None


class CheckTest(unittest.TestCase):
    def assert_fault(self, rows, what, place):
        with self.assertRaises(PatchError, msg=rows) as caught:
            check_patches(rows)
        self.assertEqual((caught.exception.what, caught.exception.place), (what, place), rows)
        self.assertIsInstance(caught.exception, SewnError)

    def test_patches(self):
        for rows in ([(0, 0, 1, 1)], [(0, 0, 10, 10)], list(PINWHEEL), list(PINWHEEL[::-1]),
                     [(0, 1, 2, 1), (0, 0, 2, 1)], [(row, 0, 1, 10) for row in range(9, -1, -1)],
                     [(row, column, 1, 1) for column in range(10) for row in range(10)]):
            self.assertIsNone(check_patches(rows))

    def test_empty(self):
        for sides_of_it in ((0, 1), (1, 0), (0, 0), (-1, 1), (1, -1), (-3, -3), (0, 20), (-1, 10 ** 20)):
            self.assert_fault([(0, 0, *sides_of_it)], "empty", 0)
            self.assert_fault([(0, 0, 1, 1), (0, 1, *sides_of_it)], "empty", 1)

    def test_outside(self):
        for patch in ((-1, 0, 1, 1), (0, -1, 1, 1), (-1, -1, 3, 3), (-5, 0, 2, 2), (0, 0, 11, 1), (0, 0, 1, 11),
                      (10, 0, 1, 1), (0, 10, 1, 1), (9, 0, 2, 1), (0, 9, 1, 2), (5, 5, 6, 5), (5, 5, 5, 6),
                      (0, 0, 10 ** 20, 1), (10 ** 20, 0, 1, 1), (-10 ** 20, 0, 10 ** 20, 1)):
            self.assert_fault([patch], "outside", 0)
            self.assert_fault([(0, 0, 1, 1), patch], "outside", 1)

    def test_the_last_rows_and_columns_are_not_outside(self):
        self.assertIsNone(check_patches([(0, 0, 9, 9), (9, 0, 1, 9), (0, 9, 9, 1), (9, 9, 1, 1)]))
        self.assert_fault([(5, 5, 5, 5)], "gap", -1)

    def test_overlaps(self):
        self.assert_fault([(0, 0, 2, 2), (1, 1, 1, 1)], "overlaps an earlier one", 1)
        self.assert_fault([(1, 1, 1, 1), (0, 0, 3, 3)], "overlaps an earlier one", 1)
        self.assert_fault([(0, 0, 1, 1), (0, 0, 1, 1)], "overlaps an earlier one", 1)
        self.assert_fault([(0, 0, 1, 3), (1, 0, 1, 3), (0, 1, 3, 1)], "overlaps an earlier one", 2)
        self.assert_fault([(0, 0, 1, 2), (0, 2, 1, 1), (0, 1, 1, 1)], "overlaps an earlier one", 2)

    def test_no_patches(self):
        self.assert_fault([], "no patches", -1)

    def test_gaps_in_the_middle_and_at_the_border(self):
        self.assert_fault(list(PINWHEEL[:3] + PINWHEEL[4:]), "gap", -1)
        self.assert_fault(list(PINWHEEL[:4]), "gap", -1)
        self.assert_fault(list(PINWHEEL[1:]), "gap", -1)
        self.assert_fault([(0, 1, 1, 1)], "gap", -1)
        self.assert_fault([(1, 0, 1, 1)], "gap", -1)
        self.assert_fault([(0, 0, 1, 2), (1, 0, 1, 1)], "gap", -1)
        self.assert_fault([(0, 0, 1, 1), (9, 9, 1, 1)], "gap", -1)

    def test_the_first_fault(self):
        empty, outside, cell = (0, 0, 0, 1), (0, 10, 1, 1), (0, 0, 1, 1)
        self.assert_fault([(-1, 12, 0, 1)], "empty", 0)
        self.assert_fault([empty, outside], "empty", 0)
        self.assert_fault([outside, empty], "outside", 0)
        self.assert_fault([cell, (0, 0, 1, 11)], "outside", 1)
        self.assert_fault([cell, cell, empty, outside], "overlaps an earlier one", 1)
        self.assert_fault([(0, 5, 1, 1), outside, (0, 5, 1, 1)], "outside", 1)
        self.assert_fault([(0, 5, 1, 1), (3, 0, 1, 1), empty], "empty", 2)
        self.assert_fault([(0, 5, 1, 1), cell, cell], "overlaps an earlier one", 2)

    def test_all_pairs_of_small_rectangles(self):
        small = list(itertools.product(range(-1, 3), range(-1, 3), range(0, 3), range(0, 3)))
        for one, other in itertools.product(small[::5], small):
            self.assert_as_the_words_say([one, other])

    def test_lists_by_lot(self):
        lot = random.Random(16)
        for _ in range(2000):
            rows = list(chance_patches(lot, lot.randint(1, 10), lot.randint(1, 10)))
            place = lot.randrange(len(rows))
            change = [lot.choice([0, 0, 0, 1, -1]) for _ in range(4)]
            rows[place] = tuple(number + more for number, more in zip(rows[place], change))
            self.assert_as_the_words_say(rows)

    def assert_as_the_words_say(self, rows):
        fault = first_fault(rows)
        if fault is None:
            self.assertIsNone(check_patches(rows))
        else:
            self.assert_fault(rows, *fault)

    def test_the_argument_stays(self):
        rows = [(0, 1, 1, 1), (0, 0, 1, 1)]
        check_patches(rows)
        self.assertEqual(rows, [(0, 1, 1, 1), (0, 0, 1, 1)])
        faulty = [(0, 1, 1, 1), (0, 1, 1, 1)]
        self.assert_fault(faulty, "overlaps an earlier one", 1)
        self.assertEqual(faulty, [(0, 1, 1, 1), (0, 1, 1, 1)])


class SidesTest(unittest.TestCase):
    def test_sides(self):
        self.assertEqual(sides(((0, 0, 1, 1),)), (1, 1))
        self.assertEqual(sides(((0, 0, 2, 3),)), (2, 3))
        self.assertEqual(sides(((1, 0, 9, 4), (0, 0, 1, 4))), (10, 4))
        self.assertEqual(sides(PINWHEEL), (3, 3))

    def test_sides_in_any_order(self):
        lot = random.Random(17)
        for height, width in itertools.product(range(1, 11), repeat=2):
            self.assertEqual(sides(chance_patches(lot, height, width)), (height, width))


def fits_by_words(pattern, patches):
    """Tell whether patches fit a pattern, by the words of [14]."""
    covered = set().union(*[cells_of_rectangle(patch) for patch in patches])
    if covered != set(itertools.product(range(len(pattern)), range(len(pattern[0])))):
        return False
    for patch in patches:
        cells = [pattern[row][column] for row, column in cells_of_rectangle(patch)]
        if len(cells) > 1 and (len(set(cells)) > 1 or len(cells[0]) > 1):
            return False
    return True


class FitsTest(unittest.TestCase):
    def test_patches_that_fit(self):
        self.assertIs(fits((("a",),), ((0, 0, 1, 1),)), True)
        self.assertIs(fits((("a/b",),), ((0, 0, 1, 1),)), True)
        self.assertIs(fits((("a", "a", "b"), ("a", "a", "b/a")), ((0, 2, 1, 1), (0, 0, 2, 2), (1, 2, 1, 1))), True)
        self.assertIs(fits((("a",) * 3,) * 3, PINWHEEL), True)

    def test_other_sides(self):
        self.assertIs(fits((("a", "a"),), ((0, 0, 1, 1),)), False)
        self.assertIs(fits((("a",),), ((0, 0, 1, 2),)), False)
        self.assertIs(fits((("a", "a"),), ((0, 0, 2, 1),)), False)
        self.assertIs(fits((("a", "a"),), ((0, 0, 2, 2),)), False)
        self.assertIs(fits((("a", "a"), ("a", "a")), ((0, 0, 1, 2),)), False)
        self.assertIs(fits((("a",) * 3,) * 2, PINWHEEL), False)

    def test_two_fabrics_in_a_patch(self):
        self.assertIs(fits((("a", "b"),), ((0, 0, 1, 2),)), False)
        self.assertIs(fits((("a", "a"), ("a", "b")), ((0, 0, 2, 2),)), False)
        self.assertIs(fits((("a", "a"), ("b", "a")), ((0, 0, 2, 1), (0, 1, 2, 1))), False)

    def test_a_diagonal_cell_in_a_patch_of_more_cells(self):
        self.assertIs(fits((("a/b", "a/b"),), ((0, 0, 1, 2),)), False)
        self.assertIs(fits((("a", "a/b"),), ((0, 0, 1, 2),)), False)
        self.assertIs(fits((("a\\b",), ("a",)), ((0, 0, 2, 1),)), False)
        self.assertIs(fits((("a/b", "a/b"),), ((0, 0, 1, 1), (0, 1, 1, 1))), True)

    def test_all_small_patterns_and_patches(self):
        for height, width in ((1, 2), (2, 1), (2, 2)):
            patterns = itertools.product(itertools.product(["a", "b", "a/b"], repeat=width), repeat=height)
            for pattern, patches in itertools.product(patterns, partitions(2, 2) + partitions(1, 2) + partitions(2, 1)):
                self.assertEqual(fits(pattern, patches), fits_by_words(pattern, patches), (pattern, patches))


def row_strips_by_words(pattern):
    """Return the list of the row strips of a pattern, cell by cell."""
    strips = []
    for row, cells in enumerate(pattern):
        column = 0
        while column < len(cells):
            width = 1
            while len(cells[column]) == 1 and cells[column:column + width + 1] == (cells[column],) * (width + 1):
                width += 1
            strips.append((row, column, 1, width))
            column += width
    return strips


def merged_strips_by_words(pattern):
    """Return the list of the merged strips of a pattern, by the words of [14]."""
    patches = []
    for row, column, _, width in row_strips_by_words(pattern):
        cell = pattern[row][column]
        above = [k for k, (top, left, height, wide) in enumerate(patches)
                 if top + height == row and (left, wide) == (column, width) and pattern[top][left] == cell]
        if len(cell) == 1 and above:
            top, left, height, wide = patches[above[0]]
            patches[above[0]] = (top, left, height + 1, wide)
        else:
            patches.append((row, column, 1, width))
    return patches


class StripsTest(unittest.TestCase):
    def assert_strips(self, text, row_by_row, merged):
        pattern = read_pattern(text)
        self.assertEqual(row_strips(pattern), row_by_row, text)
        self.assertEqual(merged_strips(pattern), merged, text)

    def test_runs_of_a_row(self):
        strips = ((0, 0, 1, 2), (0, 2, 1, 1), (0, 3, 1, 3))
        self.assert_strips("a a b a a a\n", strips, strips)
        self.assert_strips("c\n", ((0, 0, 1, 1),), ((0, 0, 1, 1),))
        self.assert_strips("a " * 9 + "a\n", ((0, 0, 1, 10),), ((0, 0, 1, 10),))

    def test_diagonal_cells_are_patches_of_their_own(self):
        cells = ((0, 0, 1, 1), (0, 1, 1, 1), (1, 0, 1, 1), (1, 1, 1, 1))
        self.assert_strips("a/b a/b\na/b a/b\n", cells, cells)
        strips = ((0, 0, 1, 1), (0, 1, 1, 1), (0, 2, 1, 2))
        self.assert_strips("a a/b a a\n", strips, strips)

    def test_a_strip_extends_the_one_above(self):
        self.assert_strips("a a b\na a b\n", ((0, 0, 1, 2), (0, 2, 1, 1), (1, 0, 1, 2), (1, 2, 1, 1)),
                           ((0, 0, 2, 2), (0, 2, 2, 1)))
        self.assert_strips("a\n" * 10, tuple((row, 0, 1, 1) for row in range(10)), ((0, 0, 10, 1),))

    def test_another_width(self):
        self.assert_strips("a a\na b\n", ((0, 0, 1, 2), (1, 0, 1, 1), (1, 1, 1, 1)),
                           ((0, 0, 1, 2), (1, 0, 1, 1), (1, 1, 1, 1)))
        self.assert_strips("a b\na a\n", ((0, 0, 1, 1), (0, 1, 1, 1), (1, 0, 1, 2)),
                           ((0, 0, 1, 1), (0, 1, 1, 1), (1, 0, 1, 2)))

    def test_another_column(self):
        strips = ((0, 0, 1, 1), (0, 1, 1, 2), (1, 0, 1, 2), (1, 2, 1, 1))
        self.assert_strips("a b b\nb b a\n", strips, strips)

    def test_another_fabric(self):
        self.assert_strips("a a\nb b\na a\n", ((0, 0, 1, 2), (1, 0, 1, 2), (2, 0, 1, 2)),
                           ((0, 0, 1, 2), (1, 0, 1, 2), (2, 0, 1, 2)))

    def test_not_directly_below(self):
        strips = ((0, 0, 1, 1), (0, 1, 1, 1), (1, 0, 1, 1), (1, 1, 1, 1), (2, 0, 1, 1), (2, 1, 1, 1))
        self.assert_strips("a c\nb/c a\na c\n", strips, strips)
        self.assert_strips("a c\nb a\na c\n", strips, strips)

    def test_several_are_extended_and_keep_their_places(self):
        self.assert_strips(
            "a b c\na c c\na b c\na b c\n",
            ((0, 0, 1, 1), (0, 1, 1, 1), (0, 2, 1, 1), (1, 0, 1, 1), (1, 1, 1, 2),
             (2, 0, 1, 1), (2, 1, 1, 1), (2, 2, 1, 1), (3, 0, 1, 1), (3, 1, 1, 1), (3, 2, 1, 1)),
            ((0, 0, 4, 1), (0, 1, 1, 1), (0, 2, 1, 1), (1, 1, 1, 2), (2, 1, 2, 1), (2, 2, 2, 1)),
        )

    def test_by_the_words_for_patterns_by_lot(self):
        lot = random.Random(18)
        for _ in range(600):
            cells = lot.choice([["a", "b"], ["a", "b", "a/b"], ["a", "a", "a", "b\\a"]])
            width = lot.randint(1, 5)
            # Rows with a likely cell have the runs that a strip of the next row may extend.
            likely = [lot.choice(cells) for _ in range(lot.randint(1, 5))]
            pattern = tuple(tuple(cell if lot.random() < 0.4 else lot.choice(cells) for _ in range(width))
                            for cell in likely)
            self.assertEqual(row_strips(pattern), tuple(row_strips_by_words(pattern)))
            self.assertEqual(merged_strips(pattern), tuple(merged_strips_by_words(pattern)))
            for patches in (row_strips(pattern), merged_strips(pattern)):
                self.assertIsNone(check_patches(list(patches)))
                self.assertTrue(fits(pattern, patches))
                self.assertEqual({type(patch) for patch in patches}, {tuple})


def neighbors_by_cells(patches):
    """Return the list of the neighbors of patches, counted at each side between two cells."""
    owner = {cell: number for number, patch in enumerate(patches) for cell in cells_of_rectangle(patch)}
    lengths = {}
    for (row, column), number in owner.items():
        for other in (owner.get((row + 1, column)), owner.get((row, column + 1))):
            if other is not None and other != number:
                pair = (min(number, other), max(number, other))
                lengths[pair] = lengths.get(pair, 0) + 1
    return sorted((*pair, length) for pair, length in lengths.items())


class NeighborsTest(unittest.TestCase):
    def test_one_patch_has_none(self):
        self.assertEqual(neighbors(((0, 0, 3, 4),)), [])
        self.assertEqual(seam_length(((0, 0, 3, 4),)), 0)

    def test_side_by_side_and_one_above_the_other(self):
        self.assertEqual(neighbors(((0, 0, 3, 1), (0, 1, 3, 4))), [(0, 1, 3)])
        self.assertEqual(neighbors(((1, 0, 2, 4), (0, 0, 1, 4))), [(0, 1, 4)])

    def test_a_part_of_a_side(self):
        patches = ((0, 0, 2, 1), (2, 0, 1, 1), (0, 1, 1, 1), (1, 1, 2, 1))
        self.assertEqual(neighbors(patches), [(0, 1, 1), (0, 2, 1), (0, 3, 1), (1, 3, 1), (2, 3, 1)])
        self.assertEqual(seam_length(patches), 5)

    def test_patches_that_touch_at_a_corner_only_are_none(self):
        cells = ((0, 0, 1, 1), (0, 1, 1, 1), (1, 0, 1, 1), (1, 1, 1, 1))
        self.assertEqual(neighbors(cells), [(0, 1, 1), (0, 2, 1), (1, 3, 1), (2, 3, 1)])
        self.assertEqual(seam_length(cells), 4)

    def test_patches_in_one_line_with_others_between_are_none(self):
        self.assertEqual(neighbors(((0, 0, 1, 1), (0, 1, 1, 1), (0, 2, 1, 1))), [(0, 1, 1), (1, 2, 1)])
        self.assertEqual(neighbors(((0, 0, 1, 1), (2, 0, 1, 1), (1, 0, 1, 1))), [(0, 2, 1), (1, 2, 1)])

    def test_the_pinwheel(self):
        self.assertEqual(neighbors(PINWHEEL), [
            (0, 1, 1), (0, 2, 1), (0, 3, 1), (1, 3, 1), (1, 4, 1), (2, 3, 1), (2, 4, 1), (3, 4, 1),
        ])
        self.assertEqual(seam_length(PINWHEEL), 8)

    def test_counted_cell_by_cell(self):
        lot = random.Random(19)
        drawn = [chance_patches(lot, lot.randint(1, 10), lot.randint(1, 10), lot.randint(1, 6)) for _ in range(150)]
        for patches in [*partitions(2, 3), *partitions(3, 3), *drawn]:
            expected = neighbors_by_cells(patches)
            self.assertEqual(neighbors(patches), expected)
            self.assertEqual(seam_length(patches), sum(length for _, _, length in expected))

    def test_the_most_patches(self):
        cells = tuple((row, column, 1, 1) for row in range(10) for column in range(10))
        self.assertEqual(seam_length(cells), 180)
        self.assertEqual(neighbors(cells), neighbors_by_cells(cells))

    def test_a_new_list_of_triples(self):
        patches = ((0, 0, 1, 1), (0, 1, 1, 1))
        found = neighbors(patches)
        self.assertIs(type(found), list)
        self.assertIs(type(found[0]), tuple)
        found.clear()
        self.assertEqual(neighbors(patches), [(0, 1, 1)])
        self.assertIsNot(neighbors(patches), neighbors(patches))


class TransformedPatchesTest(unittest.TestCase):
    def test_all_eight(self):
        patches = ((0, 0, 1, 2), (0, 2, 2, 1), (1, 0, 1, 2))
        self.assertEqual([transformed_patches(patches, symmetry) for symmetry in range(8)], [
            ((0, 0, 1, 2), (0, 2, 2, 1), (1, 0, 1, 2)),
            ((0, 1, 2, 1), (2, 0, 1, 2), (0, 0, 2, 1)),
            ((1, 1, 1, 2), (0, 0, 2, 1), (0, 1, 1, 2)),
            ((1, 0, 2, 1), (0, 0, 1, 2), (1, 1, 2, 1)),
            ((0, 1, 1, 2), (0, 0, 2, 1), (1, 1, 1, 2)),
            ((1, 1, 2, 1), (0, 0, 1, 2), (1, 0, 2, 1)),
            ((1, 0, 1, 2), (0, 2, 2, 1), (0, 0, 1, 2)),
            ((0, 0, 2, 1), (2, 0, 1, 2), (0, 1, 2, 1)),
        ])

    def test_against_the_cells_in_the_order_of_the_patches(self):
        lot = random.Random(20)
        drawn = [chance_patches(lot, lot.randint(1, 5), lot.randint(1, 5)) for _ in range(100)]
        for patches in [PINWHEEL, *partitions(2, 2), *partitions(1, 3), *partitions(3, 2), *drawn]:
            for symmetry in range(8):
                moved = transformed_patches(patches, symmetry)
                self.assertEqual(number_grid(moved), transformed(number_grid(patches), symmetry))
                self.assertEqual((type(moved), {type(patch) for patch in moved}), (tuple, {tuple}))

    def test_compositions_and_inverses(self):
        patches = ((0, 3, 2, 1), (0, 0, 1, 3), (1, 0, 1, 2), (1, 2, 1, 1))
        for first, second in itertools.product(range(8), repeat=2):
            twice = transformed_patches(transformed_patches(patches, first), second)
            self.assertEqual(twice, transformed_patches(patches, composed(first, second)))
        for symmetry in range(8):
            self.assertEqual(transformed_patches(transformed_patches(patches, symmetry), inverse(symmetry)), patches)

    def test_the_most_rows_and_columns(self):
        lot = random.Random(21)
        patches = chance_patches(lot, 10, 10)
        for symmetry in range(8):
            moved = transformed_patches(patches, symmetry)
            self.assertIsNone(check_patches(list(moved)))
            self.assertEqual(neighbors(moved), neighbors(patches))


if __name__ == "__main__":
    unittest.main()
