"""Straight seams, their parts, and what can be sewn: the point [16]."""

import random
import unittest

from helpers import MIRRORED_PINWHEEL, PINWHEEL, partitions, seams_by_cells, sewn_at_random, sewn_by_joins
from sewnwhole.patches import sides, transformed_patches
from sewnwhole.pictures import read_picture
from sewnwhole.seams import can_be_sewn, split, straight_seams


class StraightSeamsTest(unittest.TestCase):
    def test_one_patch_has_none(self):
        self.assertEqual(straight_seams(((0, 0, 1, 1),)), [])
        self.assertEqual(straight_seams(((0, 0, 10, 10),)), [])

    def test_the_border_is_no_seam(self):
        self.assertEqual(straight_seams(((0, 0, 2, 1), (0, 1, 2, 1))), [("|", 1)])
        self.assertEqual(straight_seams(((0, 0, 1, 2), (1, 0, 1, 2))), [("-", 1)])

    def test_vertical_ones_first_then_by_the_position(self):
        cells = tuple((row, column, 1, 1) for row in (2, 0, 1) for column in (1, 2, 0, 3))
        self.assertEqual(straight_seams(cells), [("|", 1), ("|", 2), ("|", 3), ("-", 1), ("-", 2)])
        most = tuple((row, column, 1, 1) for row in range(10) for column in range(10))
        expected = [("|", at) for at in range(1, 10)] + [("-", at) for at in range(1, 10)]
        self.assertEqual(straight_seams(most), expected)

    def test_a_seam_that_a_patch_lies_across(self):
        self.assertEqual(straight_seams(read_picture("AB\nCC\n")), [("-", 1)])
        self.assertEqual(straight_seams(read_picture("AAB\nCDD\n")), [("-", 1)])
        self.assertEqual(straight_seams(read_picture("ABC\nABD\n")), [("|", 1), ("|", 2)])
        self.assertEqual(straight_seams(PINWHEEL), [])
        self.assertEqual(straight_seams(MIRRORED_PINWHEEL), [])

    def test_a_part_of_patches_has_its_seams_where_it_lies(self):
        self.assertEqual(straight_seams(((2, 3, 2, 1), (2, 4, 2, 2))), [("|", 4)])
        self.assertEqual(straight_seams(((4, 3, 1, 2), (5, 3, 1, 1), (5, 4, 1, 1))), [("-", 5)])

    def test_found_cell_by_cell(self):
        lot = random.Random(24)
        drawn = [tuple(sewn_at_random(lot, lot.randint(0, 1), lot.randint(0, 2), lot.randint(1, 8), lot.randint(1, 8)))
                 for _ in range(150)]
        for patches in [*partitions(3, 3), *partitions(2, 4), *drawn]:
            expected = seams_by_cells(patches)
            self.assertEqual(straight_seams(patches), [seam[:2] for seam in expected])
            for direction, position, before, behind in expected:
                self.assertEqual(split(patches, (direction, position)), (before, behind))

    def test_a_new_list_of_pairs(self):
        patches = ((0, 0, 1, 1), (0, 1, 1, 1))
        found = straight_seams(patches)
        self.assertEqual((type(found), type(found[0])), (list, tuple))
        found.clear()
        self.assertEqual(straight_seams(patches), [("|", 1)])
        self.assertIsNot(straight_seams(patches), straight_seams(patches))


class SplitTest(unittest.TestCase):
    def test_the_first_part_is_to_the_left_or_above(self):
        patches = read_picture("AAB\nCCD\n")
        self.assertEqual(split(patches, ("|", 2)), ([0, 2], [1, 3]))
        self.assertEqual(split(patches, ("-", 1)), ([0, 1], [2, 3]))

    def test_numbers_ascending_whatever_the_order_of_the_patches(self):
        patches = read_picture("AAB\nCCD\n")[::-1]
        self.assertEqual(split(patches, ("|", 2)), ([1, 3], [0, 2]))
        self.assertEqual(split(patches, ("-", 1)), ([2, 3], [0, 1]))

    def test_the_parts_lie_on_their_sides(self):
        lot = random.Random(25)
        for _ in range(100):
            patches = sewn_at_random(lot, 0, 0, 7, 9)
            lot.shuffle(patches)
            for direction, position in straight_seams(tuple(patches)):
                axis = "-|".index(direction)
                first, second = split(tuple(patches), (direction, position))
                self.assertEqual(sorted(first + second), list(range(len(patches))))
                self.assertEqual((first, second), (sorted(first), sorted(second)))
                self.assertTrue(first and second)
                self.assertEqual(max(patches[k][axis] + patches[k][axis + 2] for k in first), position)
                self.assertEqual(min(patches[k][axis] for k in second), position)

    def test_a_pair_of_new_lists(self):
        patches = ((0, 0, 1, 1), (0, 1, 1, 1))
        parts = split(patches, ("|", 1))
        self.assertEqual((type(parts), type(parts[0]), type(parts[1])), (tuple, list, list))
        parts[0].clear()
        self.assertEqual(split(patches, ("|", 1)), ([0], [1]))


class CanBeSewnTest(unittest.TestCase):
    def test_one_patch(self):
        self.assertIs(can_be_sewn(((0, 0, 1, 1),)), True)
        self.assertIs(can_be_sewn(((0, 0, 10, 10),)), True)

    def test_patches_that_can_be_sewn(self):
        for text in ("AB\n", "A\nB\n", "AB\nCD\n", "AAB\nCDB\n", "ABB\nACD\n", "AAB\nCCB\nDEE\n", "ABC\nABD\nAEE\n"):
            self.assertIs(can_be_sewn(read_picture(text)), True, text)
        self.assertIs(can_be_sewn(tuple((row, column, 1, 1) for row in range(10) for column in range(10))), True)

    def test_a_pinwheel_cannot_be_sewn(self):
        self.assertIs(can_be_sewn(PINWHEEL), False)
        self.assertIs(can_be_sewn(MIRRORED_PINWHEEL), False)
        self.assertIs(can_be_sewn(read_picture("AAAB\nCDDB\nCDDB\nCEEE\n")), False)

    def test_a_pinwheel_inside_of_a_larger_whole(self):
        for text in ("AABX\nCDBX\nCEEX\n", "XAAB\nXCDB\nXCEE\n", "XXX\nAAB\nCDB\nCEE\n", "AAB\nCDB\nCEE\nXXX\n",
                     "WWWWW\nXAABY\nXCDBY\nXCEEY\nZZZZZ\n", "AABFF\nCDBGH\nCEEGH\n"):
            self.assertIs(can_be_sewn(read_picture(text)), False, text)

    def test_a_pinwheel_in_a_patch_of_a_pinwheel(self):
        inner = tuple((top + 2, left + 2, height, width) for top, left, height, width in PINWHEEL)
        outer = ((0, 0, 2, 5), (0, 5, 5, 2), (2, 0, 5, 2), (5, 2, 2, 5))
        self.assertIs(can_be_sewn(outer + inner), False)
        self.assertIs(can_be_sewn(outer + ((2, 2, 3, 3),)), False)

    def test_what_can_be_sewn_is_what_joins_make_whole(self):
        for patches in [*partitions(1, 4), *partitions(2, 3), *partitions(3, 3)]:
            self.assertEqual(can_be_sewn(patches), sewn_by_joins(patches), patches)

    def test_just_the_pinwheels_of_three_rows_and_columns_cannot_be_sewn(self):
        found = [patches for patches in partitions(3, 3) if not can_be_sewn(patches)]
        self.assertEqual(sorted(found), sorted([PINWHEEL, MIRRORED_PINWHEEL]))

    def test_patches_cut_by_straight_cuts(self):
        lot = random.Random(26)
        for _ in range(150):
            patches = sewn_at_random(lot, 0, 0, lot.randint(1, 10), lot.randint(1, 10))
            lot.shuffle(patches)
            self.assertIs(can_be_sewn(tuple(patches)), True)
            rows, columns = sides(patches)
            larger = tuple((top, left + columns, height, width) for top, left, height, width in PINWHEEL)
            beside = ((3, columns, rows - 3, 3),) if rows > 3 else ()
            if rows >= 3:
                self.assertIs(can_be_sewn(tuple(patches) + larger + beside), False)

    def test_the_same_for_all_symmetries_and_orders(self):
        lot = random.Random(27)
        for patches in lot.sample(partitions(3, 4), 150):
            mixed = list(patches)
            lot.shuffle(mixed)
            for symmetry in range(8):
                moved = transformed_patches(tuple(mixed), symmetry)
                self.assertEqual(can_be_sewn(moved), can_be_sewn(patches))


if __name__ == "__main__":
    unittest.main()
