"""The fabric that patches need, and its pieces: the points [26] to [28]."""

import itertools
import random
import unittest

from helpers import PINWHEEL, cells_as_patches, cells_of_rectangle, chance_patches, fault_of, fitting_pattern
from sewnwhole.cutting import best_patches
from sewnwhole.errors import FabricError, SewnError
from sewnwhole.fabric import fabric_needed, pieces_of, total_fabric
from sewnwhole.patches import merged_strips, row_strips, seam_length
from sewnwhole.patterns import half_cells, read_pattern
from sewnwhole.symmetries import transformed

MIXED = read_pattern("a a a/b\na a b\\c\nb c c\n")
MIXED_PATCHES = ((0, 0, 2, 2), (0, 2, 1, 1), (1, 2, 1, 1), (2, 0, 1, 1), (2, 1, 1, 2))
NOT_FITTING = (
    ((("a", "b"),), ((0, 0, 1, 2),)),
    ((("a/b", "a/b"),), ((0, 0, 1, 2),)),
    ((("a",),), ((0, 0, 1, 2),)),
    ((("a", "a"),) * 2, ((0, 0, 1, 2),)),
)


def needed_by_words(pattern, patches, cell_size, allowance):
    """Return the areas of fabrics by the words of [26]."""
    areas = {}
    for top, left, height, width in patches:
        word = pattern[top][left]
        if len(word) == 1:
            area = 2 * (height * cell_size + 2 * allowance) * (width * cell_size + 2 * allowance)
            areas[word] = areas.get(word, 0) + area
        else:
            for fabric in (word[0], word[2]):
                areas[fabric] = areas.get(fabric, 0) + (cell_size + 3 * allowance) ** 2
    return sorted(areas.items())


class FabricNeededTest(unittest.TestCase):
    def test_a_plain_patch(self):
        self.assertEqual(fabric_needed((("a",),), ((0, 0, 1, 1),), 1, 0), [("a", 2)])
        self.assertEqual(fabric_needed((("q",) * 3,) * 2, ((0, 0, 2, 3),), 5, 1), [("q", 2 * 12 * 17)])
        self.assertEqual(fabric_needed((("q",) * 10,) * 10, ((0, 0, 10, 10),), 40, 10), [("q", 2 * 420 * 420)])

    def test_a_diagonal_cell(self):
        self.assertEqual(fabric_needed((("a/b",),), ((0, 0, 1, 1),), 1, 0), [("a", 1), ("b", 1)])
        self.assertEqual(fabric_needed((("z\\b",),), ((0, 0, 1, 1),), 7, 2), [("b", 169), ("z", 169)])
        self.assertEqual(fabric_needed((("z\\b",),), ((0, 0, 1, 1),), 40, 10), [("b", 4900), ("z", 4900)])

    def test_plain_and_diagonal_patches_of_the_same_fabrics(self):
        self.assertEqual(fabric_needed(MIXED, MIXED_PATCHES, 4, 1),
                         [("a", 2 * 10 * 10 + 49), ("b", 49 + 49 + 2 * 6 * 6), ("c", 49 + 2 * 6 * 10)])

    def test_without_an_allowance_it_is_what_is_seen(self):
        lot = random.Random(261)
        for _ in range(60):
            patches = chance_patches(lot, lot.randint(1, 10), lot.randint(1, 10))
            pattern = fitting_pattern(lot, patches, "abqz")
            size = lot.randint(1, 40)
            seen = [(fabric, halves * size * size) for fabric, halves in half_cells(pattern)]
            self.assertEqual(fabric_needed(pattern, patches, size, 0), seen)

    def test_the_words_of_the_point(self):
        lot = random.Random(262)
        for _ in range(100):
            patches = chance_patches(lot, lot.randint(1, 10), lot.randint(1, 10))
            pattern = fitting_pattern(lot, patches, "abcdxyz")
            size, allowance = lot.randint(1, 40), lot.randint(0, 10)
            self.assertEqual(fabric_needed(pattern, patches, size, allowance),
                             needed_by_words(pattern, patches, size, allowance))

    def test_alphabetical_order(self):
        pattern = (("z", "c/a", "m"),)
        self.assertEqual([pair[0] for pair in fabric_needed(pattern, cells_as_patches(1, 3), 3, 1)], list("acmz"))

    def test_the_patches_do_not_fit(self):
        for pattern, patches in NOT_FITTING:
            self.assertEqual(fault_of(FabricError, fabric_needed, pattern, patches, 4, 1), ("patches do not fit",))
        self.assertTrue(issubclass(FabricError, SewnError))

    def test_a_new_list_of_pairs(self):
        needed = fabric_needed(MIXED, MIXED_PATCHES, 4, 1)
        kept = list(needed)
        self.assertEqual((type(needed), {type(pair) for pair in needed}), (list, {tuple}))
        needed.clear()
        self.assertEqual(fabric_needed(MIXED, MIXED_PATCHES, 4, 1), kept)


class TotalFabricTest(unittest.TestCase):
    def test_the_number_that_the_point_tells(self):
        self.assertEqual(total_fabric(((0, 0, 1, 1),), 1, 0), 2)
        self.assertEqual(total_fabric(((0, 0, 1, 1),), 3, 2), 2 * 7 * 7)
        self.assertEqual(total_fabric(((0, 0, 2, 3),), 5, 1), 2 * 12 * 17)
        self.assertEqual(total_fabric(PINWHEEL, 4, 1), 2 * 9 * 16 + 4 * 4 * (8 + 6) + 8 * 5)

    def test_the_words_of_the_point(self):
        lot = random.Random(271)
        for _ in range(60):
            rows, columns = lot.randint(1, 10), lot.randint(1, 10)
            patches = chance_patches(lot, rows, columns)
            size, allowance = lot.randint(1, 40), lot.randint(0, 10)
            expected = (2 * rows * columns * size * size
                        + 4 * allowance * size * (seam_length(patches) + rows + columns)
                        + 8 * allowance * allowance * len(patches))
            self.assertEqual(total_fabric(patches, size, allowance), expected)

    def test_the_sum_of_the_areas_of_plain_cells(self):
        lot = random.Random(272)
        for _ in range(60):
            height, width = lot.randint(1, 10), lot.randint(1, 10)
            pattern = tuple(tuple(lot.choice("aab") for _ in range(width)) for _ in range(height))
            size, allowance = lot.choice((1, 7, 40)), lot.choice((0, 1, 10))
            for patches in (row_strips(pattern), merged_strips(pattern), best_patches(pattern),
                            cells_as_patches(height, width)):
                areas = fabric_needed(pattern, patches, size, allowance)
                self.assertEqual(total_fabric(patches, size, allowance), sum(area for _, area in areas))


class PiecesOfTest(unittest.TestCase):
    def test_the_patches_in_their_order_then_the_squares(self):
        self.assertEqual(pieces_of(MIXED, MIXED_PATCHES, "a", 4, 1), [(10, 10), (7, 7)])
        self.assertEqual(pieces_of(MIXED, MIXED_PATCHES, "b", 4, 1), [(6, 6), (7, 7)])
        self.assertEqual(pieces_of(MIXED, MIXED_PATCHES, "c", 4, 1), [(10, 6), (7, 7)])

    def test_width_before_length(self):
        pattern = read_pattern("a a a\nb c c\nb c c\n")
        patches = ((1, 1, 2, 2), (0, 0, 1, 3), (1, 0, 2, 1))
        self.assertEqual(pieces_of(pattern, patches, "a", 5, 2), [(19, 9)])
        self.assertEqual(pieces_of(pattern, patches, "b", 5, 2), [(9, 14)])

    def test_patches_of_one_fabric_in_the_order_of_the_patches(self):
        pattern = read_pattern("a a b\na b a\n")
        patches = ((1, 2, 1, 1), (0, 0, 1, 2), (1, 1, 1, 1), (0, 2, 1, 1), (1, 0, 1, 1))
        self.assertEqual(pieces_of(pattern, patches, "a", 3, 0), [(3, 3), (6, 3), (3, 3)])
        patches = ((0, 2, 1, 1), (1, 1, 1, 1), (0, 0, 2, 1), (0, 1, 1, 1), (1, 2, 1, 1))
        self.assertEqual(pieces_of(pattern, patches, "a", 3, 0), [(3, 6), (3, 3), (3, 3)])

    def test_odd_and_even_numbers_of_triangles(self):
        for many in range(1, 8):
            pattern = ((("a/b", "a\\c") * many)[:many],)
            patches = cells_as_patches(1, many)
            square = (4 + 3 * 2,) * 2
            self.assertEqual(pieces_of(pattern, patches, "a", 4, 2), [square] * ((many + 1) // 2))
            self.assertEqual(len(pieces_of(pattern, patches, "b", 4, 2)), ((many + 1) // 2 + 1) // 2)
            self.assertEqual(len(pieces_of(pattern, patches, "c", 4, 2)), (many // 2 + 1) // 2)

    def test_both_halves_of_a_diagonal_cell_count(self):
        pattern = (("a/b", "b\\a", "c/b"),)
        patches = cells_as_patches(1, 3)
        self.assertEqual(pieces_of(pattern, patches, "a", 4, 0), [(4, 4)])
        self.assertEqual(pieces_of(pattern, patches, "b", 4, 0), [(4, 4), (4, 4)])
        self.assertEqual(pieces_of(pattern, patches, "c", 4, 0), [(4, 4)])

    def test_a_fabric_that_is_not_seen(self):
        self.assertEqual(pieces_of(MIXED, MIXED_PATCHES, "z", 4, 1), [])
        self.assertEqual(pieces_of((("a",),), ((0, 0, 1, 1),), "b", 4, 1), [])

    def test_the_patches_do_not_fit(self):
        for (pattern, patches), fabric in itertools.product(NOT_FITTING, "az"):
            self.assertEqual(fault_of(FabricError, pieces_of, pattern, patches, fabric, 4, 1), ("patches do not fit",))

    def test_the_area_of_the_pieces(self):
        lot = random.Random(281)
        for _ in range(60):
            patches = chance_patches(lot, lot.randint(1, 8), lot.randint(1, 8))
            pattern = fitting_pattern(lot, patches)
            size, allowance = lot.randint(1, 40), lot.randint(0, 10)
            needed = dict(fabric_needed(pattern, patches, size, allowance))
            seen = [word for row in pattern for word in row]
            for fabric in "abcd":
                pieces = pieces_of(pattern, patches, fabric, size, allowance)
                triangles = sum(fabric in word for word in seen if len(word) > 1)
                # The half of a square is left where the number of triangles is odd.
                left = (triangles - triangles // 2 * 2) * (size + 3 * allowance) ** 2
                self.assertEqual(2 * sum(width * length for width, length in pieces), needed.get(fabric, 0) + left)

    def test_pieces_of_the_patches_by_their_cells(self):
        lot = random.Random(282)
        for _ in range(40):
            patches = chance_patches(lot, lot.randint(1, 8), lot.randint(1, 8))
            pattern = fitting_pattern(lot, patches)
            size, allowance = lot.randint(1, 40), lot.randint(0, 10)
            for fabric in "abc":
                plain = [patch for patch in patches
                         if {pattern[row][column] for row, column in cells_of_rectangle(patch)} == {fabric}]
                pieces = pieces_of(pattern, patches, fabric, size, allowance)
                self.assertEqual(pieces[:len(plain)], [(patch[3] * size + 2 * allowance, patch[2] * size + 2 * allowance)
                                                       for patch in plain])
                self.assertLessEqual(set(pieces[len(plain):]), {(size + 3 * allowance,) * 2})

    def test_turned_with_the_pattern(self):
        turned = transformed(MIXED, 1)
        self.assertEqual(fabric_needed(turned, cells_as_patches(3, 3), 4, 1),
                         fabric_needed(MIXED, cells_as_patches(3, 3), 4, 1))

    def test_a_new_list_of_pairs(self):
        pieces = pieces_of(MIXED, MIXED_PATCHES, "a", 4, 1)
        self.assertEqual((type(pieces), {type(pair) for pair in pieces}), (list, {tuple}))
        pieces.clear()
        self.assertEqual(pieces_of(MIXED, MIXED_PATCHES, "a", 4, 1), [(10, 10), (7, 7)])


if __name__ == "__main__":
    unittest.main()
