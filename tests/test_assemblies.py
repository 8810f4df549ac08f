"""Assemblies: the points [21] to [25]."""

import inspect
import itertools
import random
import time
import unittest

from helpers import (
    PINWHEEL, cells_as_patches, cells_of_rectangle, chance_patches, fault_of, fitting_pattern, mixed_at_random,
    partitions, sewn_at_random, sewn_by_joins,
)
from sewnwhole.assemblies import Assembly
from sewnwhole.cores import core_paper
from sewnwhole.errors import AssemblyError, SewnError
from sewnwhole.patches import seam_length
from sewnwhole.pictures import read_picture
from sewnwhole.seams import can_be_sewn

PLAIN = (("a",) * 3,) * 3
# Patches that can be sewn, and make a pinwheel around the last one if the joins of BAD_JOINS are made.
SPLIT = ((0, 0, 1, 1), (0, 1, 1, 1), (0, 2, 2, 1), (1, 0, 2, 1), (1, 1, 1, 1), (2, 1, 1, 1), (2, 2, 1, 1))
BAD_JOINS = [(0, 1), (5, 6)]


def plain(patches):
    """Return a pattern of one fabric that patches fit."""
    rows, columns = max(patch[0] + patch[2] for patch in patches), max(patch[1] + patch[3] for patch in patches)
    return (("a",) * columns,) * rows


def assembly_of(patches, joins=()):
    """Return an assembly of a plain pattern in which joins have been made."""
    assembly = Assembly(plain(patches), patches)
    for first, second in joins:
        assembly.join(first, second)
    return assembly


def state(assembly):
    """Return all that an assembly tells of itself."""
    return (assembly.pattern, assembly.patches, assembly.sections, assembly.sewn_length, assembly.is_complete,
            assembly.is_completable, len(assembly), list(assembly), assembly.core())


class Model:
    """An assembly that is told by sets of cells alone."""

    def __init__(self, patches):
        self.patches = patches
        self.sections = [((number,), cells_of_rectangle(patch)) for number, patch in enumerate(patches)]
        self.earlier = []

    def of(self, patch):
        return next((section for section in self.sections if patch in section[0]), None)

    @staticmethod
    def bounds(cells):
        rows, columns = [sorted({cell[axis] for cell in cells}) for axis in (0, 1)]
        return rows[0], columns[0], rows[-1] - rows[0] + 1, columns[-1] - columns[0] + 1

    def told(self):
        pairs = [(members, self.bounds(cells)) for members, cells in self.sections]
        return sorted(pairs, key=lambda pair: pair[1][:2])

    def side(self, one, other):
        """Return the length of the full side of two sections in common, or 0."""
        whole = self.bounds(one[1] | other[1])
        if whole[2] * whole[3] != len(one[1]) + len(other[1]):
            return 0
        height, width = self.bounds(one[1])[2:]
        return height if height == whole[2] else width

    def join(self, first, second):
        one, other = self.of(first), self.of(second)
        if one is None or other is None:
            return "no such patch"
        if one == other:
            return "same section"
        length = self.side(one, other)
        if length == 0:
            return "no full side"
        self.earlier.append((self.sections, length))
        rest = [section for section in self.sections if section not in (one, other)]
        self.sections = [*rest, (tuple(sorted(one[0] + other[0])), one[1] | other[1])]
        return length

    def rip(self):
        if not self.earlier:
            return "nothing to rip"
        self.sections, length = self.earlier.pop()
        return length

    def completable(self):
        return can_be_sewn(tuple(rectangle for _, rectangle in self.told()))

    def safe_joins(self):
        found = []
        for one, other in itertools.combinations(self.sections, 2):
            if self.side(one, other):
                self.join(one[0][0], other[0][0])
                if self.completable():
                    found.append(tuple(sorted((one[0][0], other[0][0]))))
                self.rip()
        return sorted(found)


def outcome(action, *arguments):
    """Return what an action returns, or what is wrong with it."""
    try:
        return action(*arguments)
    except AssemblyError as fault:
        return fault.what


class NewAssemblyTest(unittest.TestCase):
    def test_each_patch_is_a_section(self):
        assembly = Assembly(PLAIN, PINWHEEL)
        self.assertEqual(assembly.sections, [((number,), patch) for number, patch in enumerate(PINWHEEL)])
        self.assertEqual((assembly.pattern, assembly.patches), (PLAIN, PINWHEEL))
        self.assertEqual((len(assembly), assembly.sewn_length), (5, 0))

    def test_sections_by_first_rows_then_by_first_columns(self):
        patches = ((2, 0, 1, 2), (0, 1, 2, 1), (1, 0, 1, 1), (0, 0, 1, 1))
        sections = Assembly((("a", "a"),) * 3, patches).sections
        self.assertEqual(sections, [((3,), patches[3]), ((1,), patches[1]), ((2,), patches[2]), ((0,), patches[0])])

    def test_one_patch(self):
        assembly = Assembly((("a/b",),), ((0, 0, 1, 1),))
        self.assertEqual(assembly.sections, [((0,), (0, 0, 1, 1))])
        self.assertIs(assembly.is_complete, True)

    def test_patches_that_do_not_fit(self):
        two = ((0, 0, 1, 2),)
        for pattern, patches in (((("a", "b"),), two), ((("a/b", "a/b"),), two), ((("a",),), two),
                                 ((("a", "a"),) * 2, two), ((("a", "a", "a"),), two)):
            self.assertEqual(fault_of(AssemblyError, Assembly, pattern, patches), ("patches do not fit",))
        self.assertTrue(issubclass(AssemblyError, SewnError))

    def test_arguments_are_named_as_told(self):
        self.assertEqual(Assembly(pattern=PLAIN, patches=PINWHEEL), Assembly(PLAIN, PINWHEEL))

    def test_methods_and_properties_stand_in_the_class(self):
        properties = {"pattern", "patches", "sections", "sewn_length", "is_complete", "is_completable"}
        methods = {"join": ["self", "first", "second"], "rip": ["self"], "safe_joins": ["self"], "finish": ["self"],
                   "join_from": ["self", "joins"], "core": ["self"], "branch": ["self"]}
        for name in properties:
            self.assertIsInstance(vars(Assembly)[name], property, name)
        for name, parameters in methods.items():
            self.assertEqual(list(inspect.signature(vars(Assembly)[name]).parameters), parameters)
        for name in ("__init__", "__len__", "__iter__", "__getitem__", "__eq__"):
            self.assertIn(name, vars(Assembly))

    def test_properties_have_no_setters(self):
        assembly = Assembly(PLAIN, PINWHEEL)
        for name in ("pattern", "patches", "sections", "sewn_length", "is_complete", "is_completable"):
            with self.assertRaises(AttributeError, msg=name):
                setattr(assembly, name, getattr(assembly, name))

    def test_a_list_that_is_modified_changes_nothing(self):
        assembly = Assembly(PLAIN, PINWHEEL)
        before = state(assembly)
        assembly.sections.clear()
        assembly.sections.append("more")
        list(assembly).clear()
        assembly.safe_joins().append((0, 1))
        self.assertEqual(state(assembly), before)
        self.assertIsInstance(assembly.patches, tuple)


class JoinTest(unittest.TestCase):
    def test_the_length_of_the_common_side(self):
        assembly = Assembly((("a",) * 5,) * 3, ((0, 0, 3, 1), (0, 1, 3, 4)))
        self.assertEqual(assembly.join(0, 1), 3)
        assembly = Assembly((("a",) * 5,) * 3, ((0, 0, 1, 5), (1, 0, 2, 5)))
        self.assertEqual(assembly.join(1, 0), 5)
        self.assertEqual(assembly.sections, [((0, 1), (0, 0, 3, 5))])

    def test_members_are_ascending(self):
        assembly = assembly_of(cells_as_patches(1, 4)[::-1])
        self.assertEqual([assembly.join(0, 1), assembly.join(3, 2), assembly.join(3, 0)], [1, 1, 1])
        self.assertEqual(assembly.sections, [((0, 1, 2, 3), (0, 0, 1, 4))])

    def test_any_patch_of_a_section_names_it(self):
        assembly = assembly_of(cells_as_patches(2, 3), [(0, 1), (4, 5), (1, 2)])
        self.assertEqual(assembly.sections, [((0, 1, 2), (0, 0, 1, 3)), ((3,), (1, 0, 1, 1)), ((4, 5), (1, 1, 1, 2))])
        self.assertEqual(assembly.join(5, 3), 1)
        self.assertEqual(assembly.join(1, 5), 3)
        self.assertEqual((assembly.sewn_length, assembly.is_complete), (7, True))

    def test_no_such_patch(self):
        assembly = Assembly(PLAIN, PINWHEEL)
        for number in (-1, -5, 5, 6, 10 ** 20, -10 ** 20):
            for pair in ((0, number), (number, 0), (number, number), (number, 1)):
                self.assertEqual(outcome(assembly.join, *pair), "no such patch", pair)
        self.assertEqual(state(assembly), state(Assembly(PLAIN, PINWHEEL)))

    def test_same_section(self):
        assembly = assembly_of(cells_as_patches(1, 3), [(0, 1)])
        before = state(assembly)
        for pair in ((0, 0), (2, 2), (0, 1), (1, 0)):
            self.assertEqual(outcome(assembly.join, *pair), "same section")
        self.assertEqual(state(assembly), before)

    def test_no_full_side(self):
        assembly = Assembly(PLAIN, PINWHEEL)
        for pair in itertools.permutations(range(5), 2):
            self.assertEqual(outcome(assembly.join, *pair), "no full side")
        self.assertEqual(state(assembly), state(Assembly(PLAIN, PINWHEEL)))
        # Apart in one row, apart in one column, at a corner, and side by side with other heights.
        cells = assembly_of(cells_as_patches(3, 3))
        for pair in ((0, 2), (0, 6), (0, 4), (1, 3), (0, 8), (2, 3)):
            self.assertEqual(outcome(cells.join, *pair), "no full side")
        uneven = assembly_of(((0, 0, 2, 1), (0, 1, 1, 1), (1, 1, 1, 1)))
        self.assertEqual([outcome(uneven.join, *pair) for pair in ((0, 1), (0, 2))], ["no full side"] * 2)
        equal = assembly_of(((0, 0, 1, 2), (0, 2, 1, 1), (1, 0, 1, 1), (1, 1, 1, 2)))
        self.assertEqual([outcome(equal.join, *pair) for pair in ((0, 3), (1, 2), (0, 2))], ["no full side"] * 3)

    def test_all_pairs_and_rips_as_in_a_model(self):
        lot = random.Random(221)
        told = set()
        for _ in range(60):
            patches = lot.choice((chance_patches, mixed_at_random))(lot, lot.randint(1, 6), lot.randint(1, 6))
            assembly, model = Assembly(fitting_pattern(lot, patches), patches), Model(patches)
            for _ in range(60):
                if lot.random() < 0.1:
                    expected = model.rip()
                    found = outcome(assembly.rip)
                else:
                    pair = [lot.randint(-1, len(patches)) for _ in range(2)]
                    expected = model.join(*pair)
                    found = outcome(assembly.join, *pair)
                told.add(expected)
                self.assertEqual(found, expected)
                self.assertEqual(assembly.sections, model.told())
                self.assertEqual(assembly.sewn_length, sum(length for _, length in model.earlier))
                self.assertEqual(assembly.is_complete, len(model.sections) == 1)
                self.assertEqual(assembly.is_completable, model.completable())
        self.assertLessEqual({"no such patch", "same section", "no full side", "nothing to rip", 1, 2}, told)

    def test_different_orders_to_the_same_sections(self):
        patches = cells_as_patches(2, 2)
        rows = assembly_of(patches, [(0, 1), (2, 3), (0, 2)])
        columns = assembly_of(patches, [(0, 2), (1, 3), (3, 0)])
        self.assertEqual(rows.sections, columns.sections)
        self.assertEqual((rows.sewn_length, columns.sewn_length), (4, 4))


class RipTest(unittest.TestCase):
    def test_nothing_to_rip(self):
        assembly = Assembly(PLAIN, PINWHEEL)
        self.assertEqual(outcome(assembly.rip), "nothing to rip")
        self.assertEqual(state(assembly), state(Assembly(PLAIN, PINWHEEL)))

    def test_the_latest_join_first_until_nothing_is_left(self):
        patches = ((0, 0, 2, 1), (0, 1, 1, 3), (1, 1, 1, 3))
        assembly = assembly_of(patches)
        states = [state(assembly)]
        self.assertEqual(assembly.join(1, 2), 3)
        states.append(state(assembly))
        self.assertEqual(assembly.join(0, 1), 2)
        self.assertEqual(assembly.sewn_length, 5)
        self.assertEqual(assembly.rip(), 2)
        self.assertEqual(state(assembly), states[1])
        self.assertEqual(assembly.rip(), 3)
        self.assertEqual(state(assembly), states[0])
        self.assertEqual(outcome(assembly.rip), "nothing to rip")

    def test_refused_joins_are_not_ripped(self):
        assembly = assembly_of(cells_as_patches(1, 3), [(0, 1)])
        for pair in ((0, 1), (0, 7), (-1, 2)):
            outcome(assembly.join, *pair)
        self.assertEqual(assembly.rip(), 1)
        self.assertEqual(outcome(assembly.rip), "nothing to rip")

    def test_rips_and_joins_mixed(self):
        assembly = assembly_of(cells_as_patches(2, 2), [(0, 1), (2, 3)])
        assembly.rip()
        assembly.rip()
        assembly.join(1, 3)
        self.assertEqual([assembly.sewn_length, assembly.rip(), assembly.sewn_length], [1, 1, 0])

    def test_joins_of_finish_and_join_from_can_be_ripped(self):
        assembly = assembly_of(cells_as_patches(2, 3))
        states = [state(assembly)]
        assembly.join_from([(0, 1), (1, 2)])
        made = len(assembly.finish())
        for _ in range(made + 2):
            assembly.rip()
        self.assertEqual(state(assembly), states[0])


class CompletableTest(unittest.TestCase):
    def test_complete(self):
        assembly = assembly_of(cells_as_patches(1, 2))
        self.assertIs(assembly.is_complete, False)
        assembly.join(0, 1)
        self.assertIs(assembly.is_complete, True)
        self.assertIs(assembly.is_completable, True)

    def test_a_pinwheel_is_not_completable(self):
        self.assertIs(Assembly(PLAIN, PINWHEEL).is_completable, False)
        self.assertEqual(Assembly(PLAIN, PINWHEEL).safe_joins(), [])

    def test_before_and_behind_a_wrong_join(self):
        assembly = assembly_of(SPLIT)
        self.assertIs(assembly.is_completable, True)
        assembly.join(*BAD_JOINS[0])
        self.assertIs(assembly.is_completable, True)
        assembly.join(*BAD_JOINS[1])
        self.assertIs(assembly.is_completable, False)
        self.assertEqual(assembly.safe_joins(), [])
        assembly.rip()
        self.assertIs(assembly.is_completable, True)

    def test_completable_is_what_joins_can_make_whole(self):
        for patches in partitions(3, 3):
            assembly = Assembly(PLAIN, patches)
            self.assertEqual(assembly.is_completable, sewn_by_joins(patches))

    def test_the_sewn_length_of_a_complete_assembly_is_the_seam_length(self):
        lot = random.Random(231)
        for _ in range(60):
            patches = sewn_at_random(lot, 0, 0, lot.randint(1, 8), lot.randint(1, 8))
            lot.shuffle(patches)
            assembly = Assembly(fitting_pattern(lot, patches), tuple(patches))
            while not assembly.is_complete and lot.random() < 0.8:
                assembly.join(*lot.choice(assembly.safe_joins()))
            assembly.finish()
            self.assertEqual(assembly.sewn_length, seam_length(patches))


class SafeJoinsTest(unittest.TestCase):
    def test_in_ascending_order_of_the_least_numbers(self):
        self.assertEqual(assembly_of(cells_as_patches(2, 2)).safe_joins(), [(0, 1), (0, 2), (1, 3), (2, 3)])
        patches = ((0, 2, 1, 1), (0, 0, 1, 1), (0, 3, 1, 1), (0, 1, 1, 1))
        self.assertEqual(assembly_of(patches).safe_joins(), [(0, 2), (0, 3), (1, 3)])
        self.assertEqual(assembly_of(patches, [(3, 0)]).safe_joins(), [(0, 1), (0, 2)])
        self.assertEqual(assembly_of(patches, [(3, 0), (0, 2)]).safe_joins(), [(0, 1)])

    def test_none_for_a_complete_assembly(self):
        self.assertEqual(assembly_of(((0, 0, 2, 2),)).safe_joins(), [])
        self.assertEqual(assembly_of(cells_as_patches(1, 2), [(0, 1)]).safe_joins(), [])

    def test_not_the_wrong_one(self):
        assembly = assembly_of(SPLIT, BAD_JOINS[:1])
        self.assertNotIn((5, 6), assembly.safe_joins())
        self.assertIn((5, 6), assembly_of(SPLIT).safe_joins())
        # The cell of the last column that is left may still go to the patch above it.
        self.assertEqual(assembly.safe_joins(), [(2, 6), (4, 5)])

    def test_as_in_a_model(self):
        lot = random.Random(232)
        for _ in range(60):
            patches = lot.choice((chance_patches, mixed_at_random))(lot, lot.randint(2, 5), lot.randint(2, 5))
            assembly, model = Assembly(fitting_pattern(lot, patches), patches), Model(patches)
            for _ in range(len(patches)):
                expected = model.safe_joins()
                self.assertEqual(assembly.safe_joins(), expected)
                # A completable assembly that is not complete has a safe join.
                self.assertEqual(bool(expected), model.completable() and len(model.sections) > 1)
                pairs = [pair for pair in itertools.permutations(range(len(patches)), 2)
                         if outcome(assembly.branch().join, *pair) in range(1, 11)]
                if pairs:
                    pair = lot.choice(pairs)
                    self.assertEqual(assembly.join(*pair), model.join(*pair))

    def test_nothing_is_changed(self):
        assembly = assembly_of(SPLIT, BAD_JOINS[:1])
        before = state(assembly)
        assembly.safe_joins()
        self.assertEqual(state(assembly), before)
        self.assertEqual(assembly.rip(), 1)

    def test_many_patches_in_time(self):
        begin = time.perf_counter()
        assembly = assembly_of(cells_as_patches(10, 10))
        self.assertEqual(len(assembly.safe_joins()), 180)
        self.assertEqual(len(assembly.finish()), 99)
        self.assertEqual(assembly.sewn_length, 180)
        self.assertLess(time.perf_counter() - begin, 20)


class FinishTest(unittest.TestCase):
    def test_a_complete_assembly(self):
        assembly = assembly_of(((0, 0, 2, 2),))
        self.assertEqual(assembly.finish(), [])
        self.assertEqual(outcome(assembly.rip), "nothing to rip")

    def test_the_first_safe_join_again_and_again(self):
        assembly = assembly_of(cells_as_patches(2, 2))
        self.assertEqual(assembly.finish(), [(0, 1), (2, 3), (0, 2)])
        self.assertIs(assembly.is_complete, True)
        lot = random.Random(241)
        for _ in range(40):
            patches = sewn_at_random(lot, 0, 0, lot.randint(1, 6), lot.randint(1, 6))
            lot.shuffle(patches)
            assembly, model = Assembly(fitting_pattern(lot, patches), tuple(patches)), Model(tuple(patches))
            expected = []
            while len(model.sections) > 1:
                expected.append(model.safe_joins()[0])
                model.join(*expected[-1])
            self.assertEqual(assembly.finish(), expected)
            self.assertEqual(assembly.sections, model.told())

    def test_cannot_be_completed(self):
        for patches, joins in ((PINWHEEL, []), (SPLIT, BAD_JOINS), (read_picture("AAB\nCDB\nCEE\nXYY\n"), [(5, 6)])):
            assembly = assembly_of(patches, joins)
            before = state(assembly)
            self.assertEqual(fault_of(AssemblyError, assembly.finish), ("cannot be completed",))
            self.assertEqual(state(assembly), before)

    def test_a_new_list(self):
        assembly = assembly_of(cells_as_patches(1, 3))
        assembly.finish().clear()
        self.assertEqual(assembly.finish(), [])
        self.assertEqual((len(assembly), assembly.sewn_length), (1, 2))


class JoinFromTest(unittest.TestCase):
    def test_pairs_that_are_skipped(self):
        assembly = assembly_of(SPLIT)
        joins = [(0, 0), (-1, 0), (7, 1), (0, 4), (1, 0), (0, 1), (5, 6), (4, 2), (4, 5), (10 ** 20, -10 ** 20)]
        kept = list(joins)
        self.assertEqual(assembly.join_from(joins), [(1, 0), (4, 5)])
        self.assertEqual(joins, kept)
        self.assertEqual([section[0] for section in assembly.sections], [(0, 1), (2,), (3,), (4, 5), (6,)])

    def test_a_pair_counts_when_it_is_come_to(self):
        patches = cells_as_patches(1, 4)
        assembly = assembly_of(patches)
        self.assertEqual(assembly.join_from([(0, 2), (1, 2), (0, 2), (0, 1)]), [(1, 2), (0, 2)])

    def test_the_pairs_as_they_were_given(self):
        assembly = assembly_of(cells_as_patches(2, 2))
        self.assertEqual(assembly.join_from([(3, 2), (1, 0), (3, 1)]), [(3, 2), (1, 0), (3, 1)])
        self.assertIs(assembly.is_complete, True)

    def test_no_more_when_it_is_complete(self):
        assembly = assembly_of(cells_as_patches(1, 2))
        self.assertEqual(assembly.join_from([(0, 1), (0, 1), (1, 0), (5, 6)]), [(0, 1)])
        self.assertEqual(assembly.join_from([(0, 1)]), [])

    def test_nothing_to_join(self):
        self.assertEqual(assembly_of(cells_as_patches(1, 2)).join_from([]), [])
        assembly = assembly_of(SPLIT, BAD_JOINS)
        before = state(assembly)
        self.assertEqual(assembly.join_from(list(itertools.permutations(range(7), 2))), [])
        self.assertEqual(state(assembly), before)

    def test_as_in_a_model(self):
        lot = random.Random(242)
        for _ in range(40):
            patches = lot.choice((chance_patches, mixed_at_random))(lot, lot.randint(2, 5), lot.randint(2, 5))
            assembly, model = Assembly(fitting_pattern(lot, patches), patches), Model(patches)
            joins = [(lot.randint(-1, len(patches)), lot.randint(-1, len(patches))) for _ in range(40)]
            expected = []
            for pair in joins:
                sections = [model.of(number) for number in pair]
                if None not in sections and tuple(sorted(section[0][0] for section in sections)) in model.safe_joins():
                    model.join(*pair)
                    expected.append(pair)
            self.assertEqual(assembly.join_from(joins), expected)
            self.assertEqual(assembly.sections, model.told())


class CoreOfAssemblyTest(unittest.TestCase):
    def test_none_if_it_is_completable(self):
        self.assertIsNone(assembly_of(SPLIT).core())
        self.assertIsNone(assembly_of(((0, 0, 2, 2),)).core())

    def test_of_the_patches_before_any_join(self):
        self.assertEqual(Assembly(PLAIN, PINWHEEL).core(), ((0, 0, 3, 3), (0, 4), (1, 2)))
        # The sections are in their own order, whatever the order of the patches.
        self.assertEqual(Assembly(PLAIN, PINWHEEL[::-1]).core(), ((0, 0, 3, 3), (0, 4), (1, 2)))

    def test_the_numbers_are_those_of_the_sections_as_patches(self):
        assembly = assembly_of(SPLIT, BAD_JOINS)
        self.assertEqual(assembly.core(), ((0, 0, 3, 3), (0, 4), (1, 2)))
        wide = tuple((top + 1, left, height, width) for top, left, height, width in SPLIT[::-1]) + ((0, 0, 1, 3),)
        assembly = assembly_of(wide, [(6, 5), (0, 1)])
        self.assertEqual(assembly.core(), ((1, 0, 3, 3), (1, 5), (2, 3)))

    def test_the_core_paper_of_the_rectangles(self):
        lot = random.Random(243)
        seen = set()
        for _ in range(150):
            patches = mixed_at_random(lot, lot.randint(3, 6), lot.randint(3, 6))
            assembly = Assembly(fitting_pattern(lot, patches), patches)
            for _ in range(30):
                outcome(assembly.join, lot.randrange(len(patches)), lot.randrange(len(patches)))
            paper = assembly.core()
            seen.add((paper is None, len(assembly) < len(patches)))
            self.assertEqual(paper, core_paper(tuple(section[1] for section in assembly.sections)))
            self.assertEqual(paper is None, assembly.is_completable)
        self.assertIn((False, True), seen)


class BranchTest(unittest.TestCase):
    def test_like_it_and_apart_from_it(self):
        assembly = assembly_of(cells_as_patches(2, 2), [(0, 1)])
        branch = assembly.branch()
        before = state(assembly)
        self.assertIsInstance(branch, Assembly)
        self.assertIsNot(branch, assembly)
        self.assertEqual(state(branch), before)
        branch.join(2, 3)
        self.assertEqual(state(assembly), before)
        assembly.rip()
        assembly.join(0, 2)
        self.assertEqual(branch.sections, [((0, 1), (0, 0, 1, 2)), ((2, 3), (1, 0, 1, 2))])

    def test_also_in_the_joins_that_can_be_ripped(self):
        assembly = assembly_of(((0, 0, 2, 1), (0, 1, 1, 3), (1, 1, 1, 3)), [(1, 2), (0, 1)])
        branch = assembly.branch()
        self.assertEqual([branch.rip(), branch.rip(), outcome(branch.rip)], [2, 3, "nothing to rip"])
        self.assertEqual((assembly.sewn_length, len(assembly)), (5, 1))
        self.assertEqual([assembly.rip(), assembly.rip(), outcome(assembly.rip)], [2, 3, "nothing to rip"])

    def test_branches_of_branches(self):
        first = assembly_of(cells_as_patches(1, 4), [(0, 1)])
        second = first.branch()
        third = second.branch()
        second.join(2, 3)
        third.rip()
        self.assertEqual([len(first), len(second), len(third)], [3, 2, 4])
        first.finish()
        self.assertEqual([len(first), len(second), len(third)], [1, 2, 4])


class EqualityTest(unittest.TestCase):
    def test_across_orders_of_joining(self):
        patches = cells_as_patches(2, 2)
        rows = assembly_of(patches, [(0, 1), (2, 3), (0, 2)])
        columns = assembly_of(patches, [(0, 2), (1, 3), (3, 0)])
        self.assertIs(rows == columns, True)
        self.assertIs(rows != columns, False)
        rows.rip()
        self.assertIs(rows == columns, False)
        self.assertIs(rows != columns, True)
        columns.rip()
        self.assertNotEqual(rows, columns)

    def test_the_joins_that_can_be_ripped_do_not_count(self):
        patches = cells_as_patches(1, 3)
        one = assembly_of(patches, [(0, 1), (1, 2)])
        other = assembly_of(patches, [(1, 2), (0, 1)])
        self.assertEqual(one, other)
        self.assertEqual(one, one.branch())

    def test_another_pattern_other_patches_and_another_order(self):
        patches = cells_as_patches(1, 2)
        assembly = Assembly((("a", "b"),), patches)
        self.assertEqual(assembly, Assembly((("a", "b"),), patches))
        self.assertNotEqual(assembly, Assembly((("a", "c"),), patches))
        self.assertNotEqual(assembly, Assembly((("a", "b"),), patches[::-1]))
        self.assertNotEqual(Assembly((("a", "a"),), patches), Assembly((("a", "a"),), ((0, 0, 1, 2),)))
        whole = Assembly((("a", "a"),), patches)
        whole.join(0, 1)
        self.assertNotEqual(whole, Assembly((("a", "a"),), patches))

    def test_another_kind_of_value(self):
        assembly = Assembly(PLAIN, PINWHEEL)
        for other in (None, 0, "", (), [], assembly.sections, PINWHEEL, PLAIN, object()):
            self.assertIs(assembly.__eq__(other), NotImplemented)
            self.assertIs(assembly == other, False)
            self.assertIs(assembly != other, True)

    def test_the_other_value_is_asked(self):
        class Anything:
            def __eq__(self, other):
                return True

        self.assertTrue(Assembly(PLAIN, PINWHEEL) == Anything())

    def test_no_hash(self):
        with self.assertRaises(TypeError):
            hash(Assembly(PLAIN, PINWHEEL))


class SectionsTest(unittest.TestCase):
    def test_length_and_iteration(self):
        assembly = assembly_of(cells_as_patches(2, 2), [(1, 3)])
        self.assertEqual(len(assembly), 3)
        self.assertEqual(list(assembly), assembly.sections)
        self.assertEqual([section for section in assembly],
                         [((0,), (0, 0, 1, 1)), ((1, 3), (0, 1, 2, 1)), ((2,), (1, 0, 1, 1))])

    def test_each_iteration_begins_anew(self):
        assembly = assembly_of(cells_as_patches(1, 2))
        self.assertEqual(len([(one, other) for one in assembly for other in assembly]), 4)

    def test_the_section_of_a_patch(self):
        assembly = assembly_of(cells_as_patches(2, 2), [(1, 3)])
        self.assertEqual([assembly[patch] for patch in range(4)], [
            ((0,), (0, 0, 1, 1)), ((1, 3), (0, 1, 2, 1)), ((2,), (1, 0, 1, 1)), ((1, 3), (0, 1, 2, 1)),
        ])

    def test_no_such_patch(self):
        assembly = assembly_of(cells_as_patches(2, 2), [(1, 3)])
        for number in (-1, -4, 4, 5, 10 ** 20):
            self.assertEqual(fault_of(AssemblyError, lambda: assembly[number]), ("no such patch",))


if __name__ == "__main__":
    unittest.main()
