"""Cores and core papers: the point [20]."""

import itertools
import random
import unittest

from helpers import (
    MIRRORED_PINWHEEL, PINWHEEL, cells_as_patches, cells_of_rectangle, chance_patches, mixed_at_random, partitions,
    seams_by_cells, sewn_by_joins,
)
from sewnwhole.cores import core, core_paper, is_core_paper
from sewnwhole.patches import transformed_patches
from sewnwhole.pictures import read_picture
from sewnwhole.seams import can_be_sewn

PAPER = ((0, 0, 3, 3), (0, 4), (1, 2))
# A pinwheel of seven rows and columns with another one in its middle.
NESTED = ((0, 0, 2, 5), (0, 5, 5, 2), (2, 0, 5, 2), (5, 2, 2, 5)) + tuple(
    (top + 2, left + 2, height, width) for top, left, height, width in PINWHEEL)


def whole_by_cells(patches):
    """Return the rectangle of patches that cover one."""
    cells = set().union(*[cells_of_rectangle(patch) for patch in patches])
    (top, left), (bottom, right) = min(cells), max(cells)
    return top, left, bottom - top + 1, right - left + 1


def core_by_words(patches):
    """Return the core of patches by the words of [20]."""
    if can_be_sewn(patches):
        return None
    seams = seams_by_cells(patches)
    if not seams:
        return whole_by_cells(patches)
    first, second = [tuple(patches[number] for number in part) for part in seams[0][2:]]
    return core_by_words(second) if can_be_sewn(first) else core_by_words(first)


def crossing_by_cells(patches, rectangle, axis):
    """Return the list of the lists of the numbers of the patches with cells of each two rows or columns in turn."""
    found = []
    for line in range(rectangle[axis] + 1, rectangle[axis] + rectangle[axis + 2]):
        found.append([number for number, patch in enumerate(patches)
                      if {line - 1, line} <= {cell[axis] for cell in cells_of_rectangle(patch)}])
    return found


def is_right_by_words(patches, paper):
    """Tell whether a core paper is right, cell by cell, by the words of [20]."""
    rectangle, *numbers = paper
    cells = cells_of_rectangle(rectangle)
    within = [number for number, patch in enumerate(patches) if cells_of_rectangle(patch) <= cells]
    touching = [number for number, patch in enumerate(patches) if cells_of_rectangle(patch) & cells]
    if len(within) < 2 or touching != within:
        return False
    for axis, told in zip((1, 0), numbers):
        crossing = crossing_by_cells(patches, rectangle, axis)
        if len(told) != len(crossing):
            return False
        if not all(number in within and number in line for number, line in zip(told, crossing)):
            return False
    return True


def paper_by_words(patches):
    """Return the core paper of patches by the words of [20]."""
    rectangle = core_by_words(patches)
    if rectangle is None:
        return None
    cells = cells_of_rectangle(rectangle)
    within = [number for number, patch in enumerate(patches) if cells_of_rectangle(patch) <= cells]
    return (rectangle, *[
        tuple(min(number for number in line if number in within) for line in crossing_by_cells(patches, rectangle, axis))
        for axis in (1, 0)
    ])


def unsewn(lot, many):
    """Return a list of so many patches that are drawn by lot and cannot be sewn."""
    found = []
    while len(found) < many:
        patches = lot.choice((mixed_at_random, chance_patches))(lot, lot.randint(3, 10), lot.randint(3, 10))
        if not can_be_sewn(patches):
            found.append(patches)
    return found


class CoreTest(unittest.TestCase):
    def test_none_if_the_patches_can_be_sewn(self):
        for patches in (((0, 0, 1, 1),), cells_as_patches(10, 10), read_picture("AAB\nCCB\nDEE\n")):
            self.assertIsNone(core(patches))
            self.assertIsNone(core_paper(patches))

    def test_the_whole_if_there_is_no_straight_seam(self):
        self.assertEqual(core(PINWHEEL), (0, 0, 3, 3))
        self.assertEqual(core(MIRRORED_PINWHEEL), (0, 0, 3, 3))
        self.assertEqual(core(NESTED), (0, 0, 7, 7))

    def test_in_the_first_part(self):
        self.assertEqual(core(read_picture("AABX\nCDBX\nCEEX\n")), (0, 0, 3, 3))
        self.assertEqual(core(read_picture("AAB\nCDB\nCEE\nXYZ\n")), (0, 0, 3, 3))

    def test_in_the_second_part(self):
        self.assertEqual(core(read_picture("XAAB\nXCDB\nYCEE\n")), (0, 1, 3, 3))
        self.assertEqual(core(read_picture("XYY\nAAB\nCDB\nCEE\n")), (1, 0, 3, 3))
        self.assertEqual(core(read_picture("WWWWW\nXAABY\nXCDBY\nXCEEY\nZZZZZ\n")), (1, 1, 3, 3))

    def test_the_first_part_comes_first_if_neither_can_be_sewn(self):
        self.assertEqual(core(read_picture("AABFFG\nCDBHIG\nCEEHJJ\n")), (0, 0, 3, 3))
        self.assertEqual(core(read_picture("AAB\nCDB\nCEE\nFFG\nHIG\nHJJ\n")), (0, 0, 3, 3))
        below = ((0, 0, 3, 3),) + tuple((top + 3, *rest) for top, *rest in PINWHEEL)
        beside = tuple((top, left + 3, height, width) for top, left, height, width in MIRRORED_PINWHEEL)
        rest = ((3, 3, 3, 3),)
        # The vertical seam comes first, and its first part has the pinwheel below.
        self.assertEqual(core(below + beside + rest), (3, 0, 3, 3))

    def test_the_words_of_the_point(self):
        lot = random.Random(201)
        for patches in [*partitions(3, 3), *partitions(3, 4)[::3], *unsewn(lot, 150)]:
            self.assertEqual(core(patches), core_by_words(patches))
            self.assertEqual(core_paper(patches), paper_by_words(patches))

    def test_a_core_for_just_the_patches_that_no_joins_make_whole(self):
        for patches in partitions(3, 3):
            self.assertEqual(core(patches) is None, sewn_by_joins(patches))


class CorePaperTest(unittest.TestCase):
    def test_pinwheels(self):
        self.assertEqual(core_paper(PINWHEEL), PAPER)
        self.assertEqual(core_paper(MIRRORED_PINWHEEL), ((0, 0, 3, 3), (4, 1), (0, 3)))

    def test_each_time_the_patch_with_the_least_number(self):
        self.assertEqual(core_paper(PINWHEEL[::-1]), ((0, 0, 3, 3), (4, 0), (3, 2)))
        # Both the long patches above and below have cells of the columns in the middle.
        wide = ((0, 0, 1, 4), (0, 4, 2, 1), (1, 0, 2, 1), (1, 1, 1, 3), (2, 1, 1, 4))
        self.assertEqual(core_paper(wide), ((0, 0, 3, 5), (0, 0, 0, 4), (1, 2)))
        self.assertEqual(core_paper(wide[::-1]), ((0, 0, 3, 5), (4, 0, 0, 0), (3, 2)))

    def test_only_patches_in_the_core(self):
        # The patches above and below lie across the same columns, and have lesser numbers.
        patches = ((0, 0, 1, 3), (4, 0, 1, 3)) + tuple((top + 1, *rest) for top, *rest in PINWHEEL)
        self.assertEqual(core_paper(patches), ((1, 0, 3, 3), (2, 6), (3, 4)))

    def test_a_pinwheel_in_another_one(self):
        self.assertEqual(core_paper(NESTED), ((0, 0, 7, 7), (0, 0, 0, 0, 3, 1), (0, 1, 1, 1, 2, 2)))

    def test_turned_and_mirrored(self):
        expected = {
            0: ((0, 4), (1, 2)), 1: ((2, 1), (0, 4)), 2: ((4, 0), (2, 1)), 3: ((1, 2), (4, 0)),
            4: ((4, 0), (1, 2)), 5: ((2, 1), (4, 0)), 6: ((0, 4), (2, 1)), 7: ((1, 2), (0, 4)),
        }
        for symmetry, numbers in expected.items():
            patches = transformed_patches(PINWHEEL, symmetry)
            self.assertEqual(core_paper(patches), ((0, 0, 3, 3), *numbers), symmetry)

    def test_the_core_paper_is_right(self):
        lot = random.Random(202)
        for patches in unsewn(lot, 150):
            paper = core_paper(patches)
            self.assertIs(is_core_paper(patches, paper), True)
            self.assertEqual([type(part) for part in paper], [tuple] * 3)
            for symmetry in range(8):
                moved = transformed_patches(patches, symmetry)
                self.assertIs(is_core_paper(moved, core_paper(moved)), True)


class IsCorePaperTest(unittest.TestCase):
    def assert_right(self, expected, patches, paper):
        self.assertIs(is_core_paper(patches, paper), expected, (patches, paper))
        self.assertEqual(is_right_by_words(patches, paper), expected, (patches, paper))

    def test_one_number_changed(self):
        for place, number in itertools.product(range(4), range(-6, 8)):
            numbers = [0, 4, 1, 2]
            right = numbers[place] == number
            numbers[place] = number
            self.assert_right(right, PINWHEEL, ((0, 0, 3, 3), tuple(numbers[:2]), tuple(numbers[2:])))

    def test_numbers_that_are_no_patch(self):
        for number in (5, 10 ** 20, -1, -5, -10 ** 20):
            self.assert_right(False, PINWHEEL, ((0, 0, 3, 3), (number, 4), (1, 2)))
            self.assert_right(False, PINWHEEL, ((0, 0, 3, 3), (0, 4), (1, number)))

    def test_another_number_than_the_least_is_right_too(self):
        wide = ((0, 0, 1, 4), (0, 4, 2, 1), (1, 0, 2, 1), (1, 1, 1, 3), (2, 1, 1, 4))
        self.assert_right(True, wide, ((0, 0, 3, 5), (0, 3, 4, 4), (1, 2)))
        self.assert_right(False, wide, ((0, 0, 3, 5), (3, 3, 4, 4), (1, 2)))
        self.assert_right(False, wide, ((0, 0, 3, 5), (0, 2, 4, 4), (1, 2)))

    def test_too_few_and_too_many_numbers(self):
        whole = (0, 0, 3, 3)
        for vertical, horizontal in (((0,), (1, 2)), ((), (1, 2)), ((0, 4, 4), (1, 2)), ((0, 4), (1,)), ((0, 4), ()),
                                     ((0, 4), (1, 2, 2)), ((), ()), ((0, 4, 1, 2), ()), ((0, 4, 1), (2,))):
            self.assert_right(False, PINWHEEL, (whole, vertical, horizontal))

    def test_one_side_of_the_rectangle_changed(self):
        for sides in itertools.product((-1, 0, 1), repeat=4):
            top, left, height, width = sides
            paper = ((top, left, 3 + height, 3 + width), (0, 4), (1, 2))
            self.assert_right(sides == (0, 0, 0, 0), PINWHEEL, paper)

    def test_a_rectangle_beyond_the_patches(self):
        self.assert_right(False, PINWHEEL, ((0, 0, 4, 3), (0, 4), (1, 2, 4)))
        self.assert_right(False, PINWHEEL, ((0, 0, 3, 4), (0, 4, 4), (1, 2)))
        self.assert_right(False, PINWHEEL, ((-1, 0, 4, 3), (0, 4), (0, 1, 2)))
        self.assert_right(False, PINWHEEL, ((0, -1, 3, 4), (0, 0, 4), (1, 2)))
        self.assert_right(False, PINWHEEL, ((20, 20, 3, 3), (0, 4), (1, 2)))

    def test_an_empty_rectangle(self):
        for rectangle in ((0, 0, 0, 3), (0, 0, 3, 0), (0, 0, 0, 0), (0, 0, -1, -1), (3, 3, -3, -3)):
            for vertical, horizontal in (((), ()), ((0, 4), (1, 2)), ((0, 4), ()), ((), (1, 2))):
                self.assert_right(False, PINWHEEL, (rectangle, vertical, horizontal))

    def test_a_rectangle_that_cuts_a_patch(self):
        # All lines of the rectangle have a patch across them, but parts of patches lie outside.
        longer = ((0, 0, 1, 2), (0, 2, 2, 1), (1, 0, 3, 1), (1, 1, 1, 1), (2, 1, 1, 2), (3, 1, 1, 2))
        self.assert_right(False, longer, ((0, 0, 3, 3), (0, 4), (1, 2)))
        self.assert_right(False, longer, ((0, 0, 4, 3), (0, 4), (1, 2, 5)))
        self.assert_right(True, longer, ((0, 0, 4, 3), (0, 4), (1, 2, 2)))

    def test_a_rectangle_with_one_patch(self):
        self.assert_right(False, ((0, 0, 2, 2),), ((0, 0, 2, 2), (0,), (0,)))
        self.assert_right(False, ((0, 0, 1, 1),), ((0, 0, 1, 1), (), ()))
        self.assert_right(False, PINWHEEL, ((0, 0, 1, 2), (0,), ()))
        self.assert_right(False, PINWHEEL, ((1, 1, 1, 1), (), ()))

    def test_a_number_of_a_patch_outside_of_the_rectangle(self):
        patches = ((0, 0, 1, 3),) + tuple((top + 1, *rest) for top, *rest in PINWHEEL)
        self.assert_right(True, patches, ((1, 0, 3, 3), (1, 5), (2, 3)))
        self.assert_right(False, patches, ((1, 0, 3, 3), (0, 5), (2, 3)))
        self.assert_right(False, patches, ((0, 0, 4, 3), (0, 0), (2, 2, 3)))

    def test_papers_of_inner_and_outer_pinwheels(self):
        self.assert_right(True, NESTED, ((2, 2, 3, 3), (4, 8), (5, 6)))
        self.assert_right(True, NESTED, core_paper(NESTED))

    def test_no_paper_is_right_for_patches_that_can_be_sewn(self):
        for patches in [*partitions(2, 2), *partitions(2, 3)]:
            numbers = range(-1, len(patches) + 1)
            rows, columns = 2, len(cells_of_rectangle(whole_by_cells(patches))) // 2
            for height, width in itertools.product(range(1, rows + 1), range(1, columns + 1)):
                for top, left in itertools.product(range(rows - height + 1), range(columns - width + 1)):
                    for vertical in itertools.product(numbers, repeat=width - 1):
                        for horizontal in itertools.product(numbers, repeat=height - 1):
                            paper = ((top, left, height, width), vertical, horizontal)
                            self.assertIs(is_core_paper(patches, paper), False)

    def test_papers_by_lot(self):
        lot = random.Random(203)
        found = []
        for patches in unsewn(lot, 200):
            rectangle, vertical, horizontal = core_paper(patches)
            for _ in range(6):
                numbers = [list(vertical), list(horizontal)]
                sides = list(rectangle)
                change = lot.randrange(4)
                if change == 0:
                    sides[lot.randrange(4)] += lot.choice((-1, 1))
                elif change == 1:
                    lot.choice(numbers).append(lot.randrange(len(patches)))
                else:
                    row = lot.choice(numbers)
                    row[lot.randrange(len(row))] = lot.randint(-1, len(patches))
                paper = (tuple(sides), tuple(numbers[0]), tuple(numbers[1]))
                found.append(is_core_paper(patches, paper))
                self.assert_right(found[-1], patches, paper)
        self.assertEqual(set(found), {True, False})


if __name__ == "__main__":
    unittest.main()
