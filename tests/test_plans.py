"""Plans, the sewing plan and the number of ways: the points [18] and [19]."""

import functools
import itertools
import math
import random
import time
import unittest

from helpers import (
    MIRRORED_PINWHEEL, PINWHEEL, any_plan, cells_as_patches, cells_of_rectangle, chance_patches, fault_of,
    mixed_at_random, partitions, seams_by_cells, sewn_at_random, sewn_by_joins,
)
from sewnwhole.errors import PlanError, SewnError
from sewnwhole.patches import seam_length
from sewnwhole.pictures import read_picture
from sewnwhole.plans import number_of_ways, placed, sewing_plan
from sewnwhole.seams import can_be_sewn

AROUND_A_PINWHEEL = "WWWWW\nXAABY\nXCDBY\nXCEEY\nZZZZZ\n"


def placed_by_cells(plan, sizes):
    """Carry out a plan, cell by cell, by the words of [18]; return the patches, or the pair (what, place)."""
    stack, used = [], set()
    for place, step in enumerate(plan):
        if step not in ("|", "-"):
            if step not in range(len(sizes)):
                return "no such patch", place
            if step in used:
                return "patch used again", place
            used.add(step)
            stack.append({cell: step for cell in cells_of_rectangle((0, 0, *sizes[step]))})
            continue
        if len(stack) < 2:
            return "missing part", place
        second, first = stack.pop(), stack.pop()
        heights, widths = [[max(cell[axis] for cell in part) + 1 for part in (first, second)] for axis in (0, 1)]
        if len(set(heights if step == "|" else widths)) > 1:
            return "parts do not match", place
        down, across = (0, widths[0]) if step == "|" else (heights[0], 0)
        if max(down + heights[1], across + widths[1]) > 10:
            return "too large", place
        stack.append({**first, **{(row + down, column + across): step for (row, column), step in second.items()}})
    if not stack:
        return "no part", -1
    if len(stack) > 1:
        return "parts left over", -1
    if len(used) < len(sizes):
        return "patch not used", -1
    corners = [min(cell for cell, number in stack[0].items() if number == wanted) for wanted in range(len(sizes))]
    return tuple((*corner, *size) for corner, size in zip(corners, sizes))


def sizes_of(patches):
    """Return the list of the sizes of patches."""
    return [patch[2:] for patch in patches]


def plans_of(patches, numbers):
    """Return the list of all plans that sew the patches with the given numbers, trying all straight seams."""
    if len(numbers) == 1:
        return [list(numbers)]
    found = []
    for direction, _, before, behind in seams_by_cells([patches[number] for number in numbers]):
        parts = [[numbers[at] for at in part] for part in (before, behind)]
        for one, other in itertools.product(plans_of(patches, parts[0]), plans_of(patches, parts[1])):
            found.append([*one, *other, direction])
    return found


def joined_length(plan, sizes):
    """Return the sum of the lengths of the joins of a plan."""
    stack, total = [], 0
    for step in plan:
        if step in ("|", "-"):
            second, first = stack.pop(), stack.pop()
            total += first[0] if step == "|" else first[1]
            stack.append((first[0], first[1] + second[1]) if step == "|" else (first[0] + second[0], first[1]))
        else:
            stack.append(sizes[step])
    return total


@functools.cache
def ways_of_cells(height, width):
    """Return the number of ways of single cells of so many rows and columns."""
    if height == width == 1:
        return 1
    return (sum(ways_of_cells(height, at) * ways_of_cells(height, width - at) for at in range(1, width))
            + sum(ways_of_cells(at, width) * ways_of_cells(height - at, width) for at in range(1, height)))


class PlacedTest(unittest.TestCase):
    def assert_fault(self, plan, sizes, what, place):
        self.assertEqual(fault_of(PlanError, placed, plan, sizes), (what, place), (plan, sizes))
        self.assertEqual(placed_by_cells(plan, sizes), (what, place))

    def test_one_patch(self):
        self.assertEqual(placed([0], [(1, 1)]), ((0, 0, 1, 1),))
        self.assertEqual(placed([0], [(10, 10)]), ((0, 0, 10, 10),))

    def test_the_part_that_was_pushed_first_is_on_the_left_or_above(self):
        self.assertEqual(placed([0, 1, "|"], [(2, 1), (2, 3)]), ((0, 0, 2, 1), (0, 1, 2, 3)))
        self.assertEqual(placed([1, 0, "|"], [(2, 1), (2, 3)]), ((0, 3, 2, 1), (0, 0, 2, 3)))
        self.assertEqual(placed([0, 1, "-"], [(1, 2), (3, 2)]), ((0, 0, 1, 2), (1, 0, 3, 2)))
        self.assertEqual(placed([1, 0, "-"], [(1, 2), (3, 2)]), ((3, 0, 1, 2), (0, 0, 3, 2)))

    def test_the_two_uppermost_parts_are_taken(self):
        sizes = [(3, 1), (1, 2), (2, 2)]
        self.assertEqual(placed([0, 1, 2, "-", "|"], sizes), ((0, 0, 3, 1), (0, 1, 1, 2), (1, 1, 2, 2)))
        self.assertEqual(placed([1, 2, "-", 0, "|"], sizes), ((0, 2, 3, 1), (0, 0, 1, 2), (1, 0, 2, 2)))
        self.assertEqual(placed([2, 1, "-", 0, "|"], sizes), ((0, 2, 3, 1), (2, 0, 1, 2), (0, 0, 2, 2)))

    def test_the_patches_are_returned_in_their_order(self):
        sizes = [(1, 1)] * 4
        self.assertEqual(placed([3, 1, "|", 2, 0, "|", "-"], sizes),
                         ((1, 1, 1, 1), (0, 1, 1, 1), (1, 0, 1, 1), (0, 0, 1, 1)))

    def test_no_such_patch(self):
        for number in (1, 2, 10 ** 20, -1, -2, -10 ** 20):
            self.assert_fault([number], [(1, 1)], "no such patch", 0)
            self.assert_fault([0, number], [(1, 1)], "no such patch", 1)
        self.assert_fault([0], [], "no such patch", 0)
        self.assert_fault([-1, -1], [(1, 1)], "no such patch", 0)

    def test_patch_used_again(self):
        self.assert_fault([0, 0], [(1, 1)], "patch used again", 1)
        self.assert_fault([0, 1, "|", 0], [(1, 1)] * 2, "patch used again", 3)
        self.assert_fault([0, 1, 1, "|", "|"], [(1, 1)] * 2, "patch used again", 2)

    def test_missing_part(self):
        for direction in "|-":
            self.assert_fault([direction], [(1, 1)], "missing part", 0)
            self.assert_fault([0, direction], [(1, 1)], "missing part", 1)
            self.assert_fault([0, 1, direction, direction], [(1, 1)] * 2, "missing part", 3)

    def test_parts_do_not_match(self):
        self.assert_fault([0, 1, "|"], [(1, 2), (2, 2)], "parts do not match", 2)
        self.assert_fault([0, 1, "-"], [(2, 1), (2, 2)], "parts do not match", 2)
        self.assert_fault([0, 1, "|", 2, "-"], [(1, 1)] * 3, "parts do not match", 4)
        self.assert_fault([0, 1, "-", 2, "|"], [(1, 1)] * 3, "parts do not match", 4)

    def test_ten_rows_or_columns_and_eleven(self):
        self.assertEqual(placed([0, 1, "|"], [(1, 4), (1, 6)]), ((0, 0, 1, 4), (0, 4, 1, 6)))
        self.assertEqual(placed([0, 1, "-"], [(4, 1), (6, 1)]), ((0, 0, 4, 1), (4, 0, 6, 1)))
        self.assert_fault([0, 1, "|"], [(1, 5), (1, 6)], "too large", 2)
        self.assert_fault([0, 1, "-"], [(5, 1), (6, 1)], "too large", 2)
        self.assert_fault([0, 1, "|", 2, "|"], [(10, 9), (10, 1), (10, 1)], "too large", 4)
        self.assert_fault([0, 1, "-", 2, "-"], [(9, 10), (1, 10), (1, 10)], "too large", 4)
        # Parts that do not match have this fault first, however large they are.
        self.assert_fault([0, 1, "|"], [(1, 10), (2, 10)], "parts do not match", 2)

    def test_behind_the_last_step(self):
        self.assert_fault([], [], "no part", -1)
        self.assert_fault([], [(1, 1)], "no part", -1)
        self.assert_fault([0, 1], [(1, 1)] * 2, "parts left over", -1)
        self.assert_fault([0, 1], [(1, 1)] * 3, "parts left over", -1)
        self.assert_fault([0, 2, "|"], [(1, 1)] * 3, "patch not used", -1)
        self.assert_fault([1], [(1, 1)] * 2, "patch not used", -1)

    def test_the_first_fault_of_the_steps(self):
        self.assert_fault(["|", 5, 0, 0], [(1, 1)], "missing part", 0)
        self.assert_fault([0, 5, "|", 0], [(1, 1)], "no such patch", 1)
        self.assert_fault([0, 0, 5, "|"], [(1, 1)], "patch used again", 1)
        self.assert_fault([0, 1, "-", 9], [(1, 1), (1, 2)], "parts do not match", 2)
        self.assert_fault([0, 1, "|", 1, 9], [(1, 9), (1, 2), (1, 1)], "too large", 2)
        self.assert_fault([0, 1, 3], [(1, 1)] * 3, "no such patch", 2)

    def test_the_error_is_one_of_the_program(self):
        with self.assertRaises(SewnError):
            placed([], [])

    def test_plans_by_lot(self):
        lot = random.Random(181)
        kinds = set()
        for _ in range(3000):
            sizes = [(lot.choice((1, 1, 2, 5)), lot.choice((1, 1, 2, 5))) for _ in range(lot.randint(1, 4))]
            steps = [*range(len(sizes)), *["|"] * len(sizes), *["-"] * len(sizes), -1, len(sizes)]
            plan = [lot.choice(steps) for _ in range(lot.randint(0, 2))]
            plan += lot.choice(([], [0, 1, "|"], [1, 0, "-"], [*range(len(sizes)), *["|"] * (len(sizes) - 1)]))
            plan += [lot.choice(steps) for _ in range(lot.randint(0, 2))]
            expected = placed_by_cells(plan, sizes)
            kinds.add(expected[0] if isinstance(expected[0], str) else "placed")
            found = fault_of(PlanError, placed, plan, sizes) or placed(plan, sizes)
            self.assertEqual(found, expected, (plan, sizes))
        self.assertEqual(kinds, {"placed", "no such patch", "patch used again", "missing part", "parts do not match",
                                 "too large", "no part", "parts left over", "patch not used"})

    def test_plans_that_place_patches_as_they_lie(self):
        lot = random.Random(182)
        for _ in range(150):
            patches = sewn_at_random(lot, 0, 0, lot.randint(1, 10), lot.randint(1, 10))
            lot.shuffle(patches)
            plan = any_plan(lot, patches)
            self.assertEqual(placed(plan, sizes_of(patches)), tuple(patches))

    def test_nothing_is_modified(self):
        plan, sizes = [0, 1, "|"], [(1, 1), (1, 2)]
        patches = placed(plan, sizes)
        self.assertEqual((plan, sizes), ([0, 1, "|"], [(1, 1), (1, 2)]))
        self.assertEqual((type(patches), {type(patch) for patch in patches}), (tuple, {tuple}))


class SewingPlanTest(unittest.TestCase):
    def test_one_patch(self):
        self.assertEqual(sewing_plan(((0, 0, 1, 1),)), [0])
        self.assertEqual(sewing_plan(((0, 0, 10, 10),)), [0])

    def test_the_first_straight_seams(self):
        self.assertEqual(sewing_plan(cells_as_patches(2, 2)), [0, 2, "-", 1, 3, "-", "|"])
        self.assertEqual(sewing_plan(cells_as_patches(1, 4)), [0, 1, 2, 3, "|", "|", "|"])
        self.assertEqual(sewing_plan(cells_as_patches(3, 1)), [0, 1, 2, "-", "-"])
        self.assertEqual(sewing_plan(read_picture("AAB\nCCB\nDEE\n")), [0, 2, "-", 1, "|", 3, 4, "|", "-"])

    def test_the_numbers_are_those_of_the_patches_in_their_order(self):
        self.assertEqual(sewing_plan(((0, 1, 1, 1), (0, 0, 1, 1))), [1, 0, "|"])
        self.assertEqual(sewing_plan(((1, 0, 1, 2), (0, 1, 1, 1), (0, 0, 1, 1))), [2, 1, "|", 0, "-"])

    def test_patches_that_cannot_be_sewn_have_none(self):
        for patches in (PINWHEEL, MIRRORED_PINWHEEL, read_picture(AROUND_A_PINWHEEL), read_picture("XAAB\nXCDB\nXCEE\n")):
            self.assertIsNone(sewing_plan(patches))

    def test_just_the_patches_that_can_be_sewn_have_one(self):
        for patches in [*partitions(2, 3), *partitions(3, 3)]:
            self.assertEqual(sewing_plan(patches) is not None, sewn_by_joins(patches), patches)

    def test_the_plan_is_the_first_one_of_all_that_try_the_seams_in_order(self):
        for patches in [*partitions(2, 2), *partitions(2, 3), *partitions(3, 3)[::5]]:
            plans = plans_of(patches, list(range(len(patches))))
            self.assertEqual(sewing_plan(patches), plans[0] if plans else None)

    def test_carried_out_it_places_the_patches_as_they_lie(self):
        lot = random.Random(191)
        sewn = 0
        for _ in range(300):
            patches = lot.choice((mixed_at_random, chance_patches))(lot, lot.randint(1, 10), lot.randint(1, 10))
            plan = sewing_plan(patches)
            self.assertEqual(plan is None, not can_be_sewn(patches))
            if plan is not None:
                sewn += 1
                self.assertEqual(placed(plan, sizes_of(patches)), patches)
                self.assertEqual(len(plan), 2 * len(patches) - 1)
        self.assertGreater(sewn, 100)
        self.assertLess(sewn, 300)

    def test_a_new_list(self):
        patches = cells_as_patches(1, 2)
        sewing_plan(patches).clear()
        self.assertEqual(sewing_plan(patches), [0, 1, "|"])
        sewing_plan(patches[:1]).clear()
        self.assertEqual(sewing_plan(patches[:1]), [0])

    def test_the_joins_of_any_plan_add_up_to_the_seam_length(self):
        lot = random.Random(192)
        for _ in range(100):
            patches = sewn_at_random(lot, 0, 0, lot.randint(1, 10), lot.randint(1, 10))
            lot.shuffle(patches)
            length = seam_length(patches)
            self.assertEqual(joined_length(sewing_plan(tuple(patches)), sizes_of(patches)), length)
            for _ in range(3):
                self.assertEqual(joined_length(any_plan(lot, patches), sizes_of(patches)), length)


class NumberOfWaysTest(unittest.TestCase):
    def test_one_patch(self):
        self.assertEqual(number_of_ways(((0, 0, 1, 1),)), 1)
        self.assertEqual(number_of_ways(((0, 0, 10, 10),)), 1)

    def test_a_few_patches(self):
        for text, ways in (("AB\n", 1), ("A\nB\n", 1), ("ABC\n", 2), ("AB\nCD\n", 2), ("AAB\nCDB\n", 1),
                           ("AABC\nDDBC\n", 2), ("AB\nCD\nEE\n", 3), ("ABCD\n", 5)):
            self.assertEqual(number_of_ways(read_picture(text)), ways, text)

    def test_patches_that_cannot_be_sewn_have_none(self):
        for patches in (PINWHEEL, MIRRORED_PINWHEEL, read_picture(AROUND_A_PINWHEEL), read_picture("AABX\nCDBX\nCEEX\n")):
            self.assertEqual(number_of_ways(patches), 0)

    def test_the_plans_that_try_all_seams(self):
        lot = random.Random(193)
        small = [mixed_at_random(lot, lot.randint(2, 5), lot.randint(2, 5)) for _ in range(200)]
        few = [patches for patches in small if len(patches) <= 9]
        self.assertGreater(len(few), 60)
        for patches in [*partitions(2, 2), *partitions(2, 3), *partitions(3, 3), *few]:
            plans = plans_of(patches, list(range(len(patches))))
            self.assertEqual(number_of_ways(patches), len(plans))
            self.assertEqual(len({tuple(plan) for plan in plans}), len(plans))

    def test_single_cells_of_up_to_four_rows_and_columns(self):
        for height, width in itertools.product(range(1, 5), range(1, 5)):
            self.assertEqual(number_of_ways(cells_as_patches(height, width)), ways_of_cells(height, width))
        for height, width in ((2, 2), (2, 3), (3, 2), (2, 4)):
            cells = cells_as_patches(height, width)
            self.assertEqual(number_of_ways(cells), len(plans_of(cells, list(range(len(cells))))))

    def test_a_row_of_cells_has_the_ways_of_brackets(self):
        for many in range(1, 11):
            ways = math.comb(2 * (many - 1), many - 1) // many
            self.assertEqual(number_of_ways(cells_as_patches(1, many)), ways)
            self.assertEqual(number_of_ways(cells_as_patches(many, 1)), ways)

    def test_single_cells_of_ten_rows_and_columns_in_time(self):
        begin = time.perf_counter()
        self.assertEqual(number_of_ways(cells_as_patches(10, 10)), ways_of_cells(10, 10))
        self.assertLess(time.perf_counter() - begin, 10)

    def test_the_order_of_the_patches_does_not_count(self):
        lot = random.Random(194)
        for _ in range(50):
            patches = list(mixed_at_random(lot, lot.randint(1, 10), lot.randint(1, 10)))
            ways = number_of_ways(tuple(patches))
            lot.shuffle(patches)
            self.assertEqual(number_of_ways(tuple(patches)), ways)
            self.assertEqual(ways > 0, can_be_sewn(tuple(patches)))


if __name__ == "__main__":
    unittest.main()
