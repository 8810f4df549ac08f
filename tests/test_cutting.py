"""The best patches of patterns: the point [17]."""

import functools
import itertools
import random
import time
import unittest

from helpers import cells_of_rectangle, chance_pattern, sewn_by_joins
from sewnwhole.cutting import best_patches
from sewnwhole.patches import check_patches, fits, merged_strips, row_strips, seam_length, sides
from sewnwhole.patterns import read_pattern
from sewnwhole.seams import can_be_sewn


def can_be_one(pattern, patch):
    """Tell whether a patch of a pattern is a single cell, or all its cells are plain and of the same fabric."""
    words = [pattern[row][column] for row, column in cells_of_rectangle(patch)]
    return len(words) == 1 or (len(set(words)) == 1 and len(words[0]) == 1)


def best_by_words(pattern):
    """Return the best patches of a pattern by the words of [17], with the seam lengths counted out each time."""
    @functools.cache
    def best(top, left, height, width):
        if can_be_one(pattern, (top, left, height, width)):
            return ((top, left, height, width),)
        choices = [best(top, left, height, at) + best(top, left + at, height, width - at) for at in range(1, width)]
        choices += [best(top, left, at, width) + best(top + at, left, height - at, width) for at in range(1, height)]
        return min(choices, key=lambda patches: (len(patches), seam_length(patches)))

    return best(0, 0, len(pattern), len(pattern[0]))


def all_that_fit(pattern, most):
    """Return the list of all patches that fit a pattern and are at most so many."""
    height, width = len(pattern), len(pattern[0])
    order = list(itertools.product(range(height), range(width)))
    found, waiting = [], [((), frozenset())]
    while waiting:
        patches, taken = waiting.pop()
        free = [cell for cell in order if cell not in taken]
        if not free:
            found.append(patches)
        elif len(patches) < most:
            row, column = free[0]
            for many, wide in itertools.product(range(1, height - row + 1), range(1, width - column + 1)):
                patch = (row, column, many, wide)
                cells = cells_of_rectangle(patch)
                if not cells & taken and can_be_one(pattern, patch):
                    waiting.append(((*patches, patch), taken | cells))
    return found


class BestPatchesTest(unittest.TestCase):
    def assert_least(self, pattern):
        """Assert that no patches that fit a pattern and can be sewn are fewer, or as many with a less seam length."""
        patches = best_patches(pattern)
        self.assertIsNone(check_patches(list(patches)))
        self.assertTrue(fits(pattern, patches))
        self.assertTrue(can_be_sewn(patches))
        sewn = [other for other in all_that_fit(pattern, len(patches)) if can_be_sewn(other)]
        costs = [(len(other), seam_length(other)) for other in sewn]
        self.assertEqual((len(patches), seam_length(patches)), min(costs), pattern)

    def test_a_single_cell(self):
        self.assertEqual(best_patches((("a",),)), ((0, 0, 1, 1),))
        self.assertEqual(best_patches((("a/b",),)), ((0, 0, 1, 1),))

    def test_one_plain_fabric_is_one_patch(self):
        for height, width in ((1, 2), (2, 1), (4, 3), (10, 10)):
            self.assertEqual(best_patches((("q",) * width,) * height), ((0, 0, height, width),))

    def test_only_diagonal_cells_of_the_same_kind(self):
        self.assertEqual(best_patches((("a/b", "a/b"),)), ((0, 0, 1, 1), (0, 1, 1, 1)))
        self.assertEqual(best_patches((("a/b",) * 2,) * 2), ((0, 0, 1, 1), (1, 0, 1, 1), (0, 1, 1, 1), (1, 1, 1, 1)))
        patches = best_patches((("a\\b",) * 10,) * 10)
        self.assertEqual(patches, tuple((row, column, 1, 1) for column in range(10) for row in range(10)))

    def test_fewer_patches_before_a_less_seam_length(self):
        self.assertEqual(best_patches(read_pattern("a b a\n" * 4)), ((0, 0, 4, 1), (0, 1, 4, 1), (0, 2, 4, 1)))
        self.assertEqual(len(best_patches(read_pattern("a a a\na b a\na a a\n"))), 5)
        pattern = read_pattern("a a a b\nb a a a\na a a b\n")
        patches = best_patches(pattern)
        self.assertEqual((len(patches), seam_length(patches)), (6, 11))
        more = [other for other in all_that_fit(pattern, 7) if can_be_sewn(other) and seam_length(other) < 11]
        self.assertEqual({len(other) for other in more}, {7})

    def test_the_least_seam_length_of_as_many(self):
        # Both a cut behind the first column and one below the first row leave three patches, of lengths 3 and 4.
        pattern = read_pattern("a b b\nb b b\n")
        self.assertEqual(best_patches(pattern), ((0, 0, 1, 1), (1, 0, 1, 1), (0, 1, 2, 2)))
        self.assertEqual(seam_length(best_patches(pattern)), 3)
        pattern = read_pattern("a b\nb b\nb b\n")
        self.assertEqual(best_patches(pattern), ((0, 0, 1, 1), (0, 1, 1, 1), (1, 0, 2, 2)))
        self.assertEqual(seam_length(best_patches(pattern)), 3)

    def test_ties_go_to_vertical_lines_first(self):
        pattern = read_pattern("a b\nb b\n")
        self.assertEqual(best_patches(pattern), ((0, 0, 1, 1), (1, 0, 1, 1), (0, 1, 2, 1)))
        pattern = read_pattern("a b\nb a\n")
        self.assertEqual(best_patches(pattern), ((0, 0, 1, 1), (1, 0, 1, 1), (0, 1, 1, 1), (1, 1, 1, 1)))

    def test_ties_go_to_the_first_position(self):
        # The single b may be cut off with what is on its left or on its right.
        pattern = read_pattern("a a a\na b a\n")
        self.assertEqual(best_patches(pattern), ((0, 0, 2, 1), (0, 1, 1, 1), (1, 1, 1, 1), (0, 2, 2, 1)))
        pattern = read_pattern("a a\na b\na a\n")
        self.assertEqual(best_patches(pattern), best_by_words(pattern))
        self.assertEqual(best_patches(read_pattern("a b c\n")), ((0, 0, 1, 1), (0, 1, 1, 1), (0, 2, 1, 1)))

    def test_a_plain_pinwheel_is_cut_further(self):
        pattern = read_pattern("a a b\nc d b\nc e e\n")
        patches = best_patches(pattern)
        self.assertEqual(len(patches), 6)
        self.assertEqual(patches, ((0, 0, 1, 1), (1, 0, 2, 1), (0, 1, 1, 1), (1, 1, 1, 1), (0, 2, 2, 1), (2, 1, 1, 2)))

    def test_the_words_of_the_point(self):
        lot = random.Random(171)
        for _ in range(150):
            pattern = chance_pattern(lot, lot.randint(1, 5), lot.randint(1, 5), lot.choice(("ab", "aab", "abc")))
            self.assertEqual(best_patches(pattern), best_by_words(pattern), pattern)

    def test_the_words_of_the_point_for_all_small_patterns(self):
        for height, width in ((1, 4), (2, 2), (2, 3), (3, 2), (3, 3)):
            for words in itertools.product("ab", repeat=height * width):
                pattern = tuple(words[row * width:(row + 1) * width] for row in range(height))
                self.assertEqual(best_patches(pattern), best_by_words(pattern), pattern)

    def test_a_plain_search_over_all_patches(self):
        lot = random.Random(172)
        for height, width in itertools.product(range(1, 5), range(1, 5)):
            for fabrics, diagonals in (("aaab", 0.05), ("ab", 0.1), ("abc", 0)):
                for _ in range(2):
                    self.assert_least(chance_pattern(lot, height, width, fabrics, diagonals))

    def test_a_plain_search_over_all_patches_and_joins(self):
        lot = random.Random(173)
        for _ in range(12):
            pattern = chance_pattern(lot, 3, 3, "aab", 0)
            patches = best_patches(pattern)
            sewn = [other for other in all_that_fit(pattern, len(patches)) if sewn_by_joins(other)]
            self.assertEqual((len(patches), seam_length(patches)),
                             min((len(other), seam_length(other)) for other in sewn), pattern)

    def test_never_more_than_the_strips(self):
        lot = random.Random(174)
        for _ in range(40):
            pattern = chance_pattern(lot, lot.randint(1, 10), lot.randint(1, 10))
            patches = best_patches(pattern)
            self.assertEqual(sides(patches), (len(pattern), len(pattern[0])))
            self.assertTrue(fits(pattern, patches) and can_be_sewn(patches))
            # Row strips can always be sewn, row by row, while merged strips cannot always.
            self.assertLessEqual(len(patches), len(row_strips(pattern)))
            if can_be_sewn(merged_strips(pattern)):
                self.assertLessEqual(len(patches), len(merged_strips(pattern)))

    def test_ten_rows_and_columns_in_time(self):
        lot = random.Random(175)
        begin = time.perf_counter()
        for fabrics, diagonals in (("ab", 0.1), ("aaaaab", 0), ("abcdefgh", 0.5)):
            pattern = chance_pattern(lot, 10, 10, fabrics, diagonals)
            patches = best_patches(pattern)
            self.assertTrue(fits(pattern, patches) and can_be_sewn(patches))
        self.assertLess(time.perf_counter() - begin, 10)

    def test_a_tuple_of_tuples(self):
        patches = best_patches(read_pattern("a b\n"))
        self.assertEqual((type(patches), type(patches[0])), (tuple, tuple))


if __name__ == "__main__":
    unittest.main()
