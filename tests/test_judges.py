"""Flaws of plans, answers and judgments: the points [35] to [38]."""

import itertools
import random
import unittest

from helpers import (
    MIRRORED_PINWHEEL, PINWHEEL, any_plan, cells_as_patches, cells_of_rectangle, chance_patches, chance_pattern,
    fault_of, fitting_pattern, mixed_at_random, sewn_at_random,
)
from sewnwhole.assemblies import Assembly
from sewnwhole.bolts import best_cutting
from sewnwhole.cores import core_paper
from sewnwhole.errors import AssemblyError, JudgeError, SewnError
from sewnwhole.judges import answer, flaw_of_plan, judge, judge_all
from sewnwhole.patterns import read_pattern
from sewnwhole.pictures import read_picture
from sewnwhole.plans import sewing_plan
from sewnwhole.seams import can_be_sewn
from sewnwhole.symmetries import canonical, transformed

PLAIN = (("a",) * 3,) * 3
SPLIT = ((0, 0, 1, 1), (0, 1, 1, 1), (0, 2, 2, 1), (1, 0, 2, 1), (1, 1, 1, 1), (2, 1, 1, 1), (2, 2, 1, 1))
# Behind these joins the sections are a pinwheel.
BAD_JOINS = [(0, 1), (5, 6)]
PAPER = ((0, 0, 3, 3), (0, 4), (1, 2))
PATTERN = read_pattern("a a/b\nb a\n")
PIECES = [(4, 6), (3, 5), (6, 2), (2, 2)]


def flaw_by_cells(patches, plan):
    """Return the flaw of a plan by the words of [35], with parts that are sets of cells."""
    stack = []
    for place, step in enumerate(plan):
        if step not in ("|", "-"):
            if step not in range(len(patches)):
                return place, "no such patch"
            if step in plan[:place]:
                return place, "used twice"
            stack.append(cells_of_rectangle(patches[step]))
            continue
        if len(stack) < 2:
            return place, "too few parts"
        second, first = stack.pop(), stack.pop()
        along, across = (1, 0) if step == "|" else (0, 1)
        behind = max(cell[along] for cell in first) + 1 == min(cell[along] for cell in second)
        if not behind or {cell[across] for cell in first} != {cell[across] for cell in second}:
            return place, "no common side"
        stack.append(first | second)
    if set(range(len(patches))) - set(plan):
        return len(plan), "patch left out"
    return (len(plan), "parts left") if len(stack) != 1 else None


def joins_by_lot(lot, patches, tries):
    """Return a list of joins that can be made one after the other, and the assembly behind them."""
    assembly, joins = Assembly(fitting_pattern(lot, patches), patches), []
    for _ in range(tries):
        pair = (lot.randrange(len(patches)), lot.randrange(len(patches)))
        if fault_of(AssemblyError, assembly.join, *pair) is None:
            joins.append(pair)
    return joins, assembly


class FlawOfPlanTest(unittest.TestCase):
    def assert_flaw(self, patches, plan, expected):
        self.assertEqual(flaw_of_plan(patches, plan), expected, plan)
        self.assertEqual(flaw_by_cells(patches, plan), expected, plan)

    def test_none(self):
        self.assert_flaw(((0, 0, 1, 1),), [0], None)
        cells = cells_as_patches(2, 2)
        for plan in ([0, 2, "-", 1, 3, "-", "|"], [0, 1, "|", 2, 3, "|", "-"]):
            self.assert_flaw(cells, plan, None)

    def test_any_order_of_seams(self):
        lot = random.Random(351)
        for _ in range(100):
            patches = sewn_at_random(lot, 0, 0, lot.randint(1, 10), lot.randint(1, 10))
            lot.shuffle(patches)
            self.assert_flaw(tuple(patches), any_plan(lot, patches), None)
            self.assert_flaw(tuple(patches), sewing_plan(tuple(patches)), None)

    def test_no_such_patch(self):
        cells = cells_as_patches(1, 2)
        for number in (2, 3, 10 ** 20, -1, -2, -10 ** 20):
            self.assert_flaw(cells, [number], (0, "no such patch"))
            self.assert_flaw(cells, [0, number, "|"], (1, "no such patch"))
            self.assert_flaw(cells, [number, number], (0, "no such patch"))

    def test_used_twice(self):
        cells = cells_as_patches(1, 3)
        self.assert_flaw(cells, [0, 0, "|"], (1, "used twice"))
        self.assert_flaw(cells, [0, 1, "|", 1, "|"], (3, "used twice"))

    def test_too_few_parts(self):
        cells = cells_as_patches(1, 2)
        for direction in "|-":
            self.assert_flaw(cells, [direction], (0, "too few parts"))
            self.assert_flaw(cells, [0, direction, 1], (1, "too few parts"))
            self.assert_flaw(cells, [0, 1, "|", direction], (3, "too few parts"))

    def test_no_common_side(self):
        row, column = cells_as_patches(1, 3), cells_as_patches(3, 1)
        # The other direction, an exchanged order, a gap between them, and sides that are not full.
        self.assert_flaw(row, [0, 1, "-"], (2, "no common side"))
        self.assert_flaw(column, [0, 1, "|"], (2, "no common side"))
        self.assert_flaw(row, [1, 0, "|", 2, "|"], (2, "no common side"))
        self.assert_flaw(column, [1, 0, "-", 2, "-"], (2, "no common side"))
        self.assert_flaw(row, [0, 2, "|"], (2, "no common side"))
        self.assert_flaw(column, [0, 2, "-"], (2, "no common side"))
        self.assert_flaw(((0, 0, 2, 1), (0, 1, 1, 1), (1, 1, 1, 1)), [0, 1, "|"], (2, "no common side"))
        self.assert_flaw(((0, 0, 1, 2), (1, 0, 1, 1), (1, 1, 1, 1)), [0, 2, "-"], (2, "no common side"))
        cells = cells_as_patches(2, 2)
        self.assert_flaw(cells, [0, 3, "|"], (2, "no common side"))
        self.assert_flaw(cells, [1, 2, "|"], (2, "no common side"))
        self.assert_flaw(cells, [0, 1, "|", 2, "-"], (4, "no common side"))
        # The same heights side by side, but not in the same rows.
        self.assert_flaw(read_picture("AC\nAB\nDB\n"), [0, 2, "|"], (2, "no common side"))
        self.assert_flaw(read_picture("AAC\nDBB\n"), [0, 3, "-"], (2, "no common side"))

    def test_an_exchanged_order_of_two_larger_parts(self):
        cells = cells_as_patches(2, 2)
        self.assert_flaw(cells, [2, 3, "|", 0, 1, "|", "-"], (6, "no common side"))
        self.assert_flaw(cells, [1, 3, "-", 0, 2, "-", "|"], (6, "no common side"))

    def test_patch_left_out_and_parts_left(self):
        cells = cells_as_patches(1, 3)
        self.assert_flaw(cells, [], (0, "patch left out"))
        self.assert_flaw(cells, [0, 1, "|"], (3, "patch left out"))
        self.assert_flaw(cells, [0, 1], (2, "patch left out"))
        self.assert_flaw(cells, [0, 1, 2], (3, "parts left"))
        self.assert_flaw(cells, [0, 1, 2, "|"], (4, "parts left"))

    def test_the_first_step_that_is_wrong(self):
        cells = cells_as_patches(1, 3)
        self.assert_flaw(cells, [0, "|", 7, 0], (1, "too few parts"))
        self.assert_flaw(cells, [0, 7, 0, "-"], (1, "no such patch"))
        self.assert_flaw(cells, [0, 2, "|", 7], (2, "no common side"))
        self.assert_flaw(cells, [0, 0, "-", "-"], (1, "used twice"))

    def test_no_plan_sews_a_pinwheel(self):
        lot = random.Random(352)
        for _ in range(300):
            steps = [*range(5), *[lot.choice("|-") for _ in range(4)]]
            lot.shuffle(steps)
            self.assertIsNotNone(flaw_of_plan(PINWHEEL, steps))

    def test_plans_with_changes_by_lot(self):
        lot = random.Random(353)
        kinds = set()
        for _ in range(1500):
            patches = sewn_at_random(lot, 0, 0, lot.randint(1, 4), lot.randint(1, 4))
            lot.shuffle(patches)
            plan = any_plan(lot, patches)
            for _ in range(lot.randint(0, 2)):
                at = lot.randint(0, len(plan))
                plan[at:at + lot.randint(0, 1)] = lot.choice(([], ["|"], ["-"], [lot.randint(-1, len(patches))]))
            if lot.random() < 0.3 and len(plan) > 1:
                at = lot.randrange(len(plan) - 1)
                plan[at], plan[at + 1] = plan[at + 1], plan[at]
            expected = flaw_by_cells(patches, plan)
            kinds.add(expected and expected[1])
            self.assert_flaw(tuple(patches), plan, expected)
        self.assertEqual(kinds, {None, "no such patch", "used twice", "too few parts", "no common side",
                                 "patch left out", "parts left"})

    def test_nothing_is_modified(self):
        plan = [0, 1, "|"]
        flaw_of_plan(cells_as_patches(1, 2), plan)
        self.assertEqual(plan, [0, 1, "|"])


class AnswerTest(unittest.TestCase):
    def assert_answer(self, question, claim):
        self.assertEqual(answer(question), claim)
        self.assertIs(judge(claim), True)
        self.assertIsInstance(answer(question), tuple)

    def test_alike(self):
        self.assert_answer(("alike", PATTERN, PATTERN), ("alike", PATTERN, PATTERN, 0))
        for symmetry in range(8):
            moved = transformed(PATTERN, symmetry)
            told = answer(("alike", PATTERN, moved))[3]
            self.assertEqual(told, min(k for k in range(8) if transformed(PATTERN, k) == moved))
        cross = (("a", "b"), ("b", "a"))
        self.assert_answer(("alike", cross, (("b", "a"), ("a", "b"))), ("alike", cross, (("b", "a"), ("a", "b")), 1))
        row = (("a", "b", "c"),)
        self.assert_answer(("alike", row, row), ("alike", row, row, 0))
        self.assert_answer(("alike", row, (("c", "b", "a"),)), ("alike", row, (("c", "b", "a"),), 2))

    def test_unlike(self):
        other = read_pattern("a a/b\nb b\n")
        self.assert_answer(("alike", PATTERN, other),
                           ("unlike", PATTERN, other, canonical(PATTERN), canonical(other)))
        # The same but for the names of the fabrics is not alike.
        self.assert_answer(("alike", (("a",),), (("b",),)), ("unlike", (("a",),), (("b",),), (("a",),), (("b",),)))
        self.assert_answer(("alike", (("b", "a"),), (("b",),)),
                           ("unlike", (("b", "a"),), (("b",),), (("a", "b"),), (("b",),)))

    def test_sewn(self):
        patches = cells_as_patches(2, 2)
        self.assert_answer(("sewn", patches), ("sewn", patches, [0, 2, "-", 1, 3, "-", "|"]))
        self.assert_answer(("sewn", ((0, 0, 3, 3),)), ("sewn", ((0, 0, 3, 3),), [0]))

    def test_unsewn(self):
        self.assert_answer(("sewn", PINWHEEL), ("unsewn", PINWHEEL, PAPER))
        self.assert_answer(("sewn", MIRRORED_PINWHEEL), ("unsewn", MIRRORED_PINWHEEL, ((0, 0, 3, 3), (4, 1), (0, 3))))

    def test_finish(self):
        cells = cells_as_patches(2, 2)
        pattern = (("a", "b"), ("c", "d"))
        self.assert_answer(("finish", pattern, cells, []), ("finish", pattern, cells, [], [(0, 1), (2, 3), (0, 2)]))
        self.assert_answer(("finish", pattern, cells, [(3, 1)]),
                           ("finish", pattern, cells, [(3, 1)], [(0, 2), (0, 1)]))
        self.assert_answer(("finish", pattern, cells, [(3, 1), (0, 2), (2, 3)]),
                           ("finish", pattern, cells, [(3, 1), (0, 2), (2, 3)], []))

    def test_stuck(self):
        self.assert_answer(("finish", PLAIN, SPLIT, BAD_JOINS), ("stuck", PLAIN, SPLIT, BAD_JOINS, PAPER))
        self.assert_answer(("finish", PLAIN, PINWHEEL[::-1], []), ("stuck", PLAIN, PINWHEEL[::-1], [], PAPER))

    def test_joins_that_cannot_be_made(self):
        for joins, place in (([(0, 0)], 0), ([(0, 1), (1, 0)], 1), ([(0, 1), (4, 5), (0, 7)], 2), ([(-1, 0)], 0),
                             ([(0, 1), (0, 4), (0, 0)], 1), ([(5, 6), (0, 1), (0, 2)], 2)):
            self.assertEqual(fault_of(JudgeError, answer, ("finish", PLAIN, SPLIT, joins)),
                             ("join not possible", place), joins)
        self.assertTrue(issubclass(JudgeError, SewnError))

    def test_cut(self):
        cutting = ((0, 1), (2, 3))
        self.assert_answer(("cut", PIECES, 8, 8), ("cut", PIECES, 8, 8, cutting))
        self.assert_answer(("cut", PIECES, 8, 100), ("cut", PIECES, 8, 100, cutting))
        self.assert_answer(("cut", [], 1, 0), ("cut", [], 1, 0, ()))

    def test_not_cut(self):
        self.assert_answer(("cut", PIECES, 8, 7), ("not cut", PIECES, 8, 7))
        self.assert_answer(("cut", PIECES, 5, 1000), ("not cut", PIECES, 5, 1000))
        # Turned they would fit.
        self.assert_answer(("cut", [(4, 6), (6, 3)], 7, 6), ("not cut", [(4, 6), (6, 3)], 7, 6))
        self.assert_answer(("cut", [(4, 6), (6, 3)], 5, 100), ("not cut", [(4, 6), (6, 3)], 5, 100))

    def test_questions_by_lot(self):
        lot = random.Random(381)
        words = set()
        for _ in range(120):
            patches = lot.choice((chance_patches, mixed_at_random))(lot, lot.randint(1, 6), lot.randint(1, 6))
            first = chance_pattern(lot, lot.randint(1, 3), lot.randint(1, 3))
            second = lot.choice((transformed(first, lot.randrange(8)), chance_pattern(lot, 2, 2)))
            joins, assembly = joins_by_lot(lot, patches, lot.randint(0, 25))
            pieces = [(lot.randint(1, 9), lot.randint(1, 9)) for _ in range(lot.randint(0, 5))]
            questions = [("alike", first, second), ("sewn", patches), ("finish", assembly.pattern, patches, joins),
                         ("cut", pieces, lot.randint(8, 14), lot.randint(0, 20))]
            yes = [canonical(first) == canonical(second), can_be_sewn(patches), assembly.is_completable]
            for question, expected in itertools.zip_longest(questions, yes):
                claim = answer(question)
                words.add(claim[0])
                self.assertIs(judge(claim), True, claim)
                self.assertEqual(claim[1:len(question)], question[1:])
                if expected is not None:
                    self.assertEqual(claim[0] == question[0], expected)
        self.assertEqual(words, {"alike", "unlike", "sewn", "unsewn", "finish", "stuck", "cut", "not cut"})

    def test_the_question_is_left_as_it_was_and_lists_are_new(self):
        joins, none, pieces = list(BAD_JOINS[:1]), [], list(PIECES)
        claims = [answer(("finish", PLAIN, SPLIT, joins)), answer(("finish", PLAIN, PINWHEEL, none)),
                  answer(("cut", pieces, 8, 8)), answer(("cut", pieces, 8, 7)), answer(("sewn", cells_as_patches(1, 2)))]
        kept = repr(claims)
        for claim in claims:
            for part in claim:
                if isinstance(part, list):
                    part.append("more")
        self.assertEqual((joins, none, pieces), (BAD_JOINS[:1], [], PIECES))
        self.assertEqual(repr([answer(("finish", PLAIN, SPLIT, joins)), answer(("finish", PLAIN, PINWHEEL, [])),
                               answer(("cut", pieces, 8, 8)), answer(("cut", pieces, 8, 7)),
                               answer(("sewn", cells_as_patches(1, 2)))]), kept)


class JudgeTest(unittest.TestCase):
    def assert_judged(self, expected, *claim):
        self.assertIs(judge(claim), expected, claim)

    def test_alike(self):
        moved = transformed(PATTERN, 3)
        right = [symmetry for symmetry in range(8) if transformed(PATTERN, symmetry) == moved]
        for symmetry in range(8):
            self.assert_judged(symmetry in right, "alike", PATTERN, moved, symmetry)
        self.assertLess(len(right), 8)
        # Not only the least one is right.
        for symmetry in range(8):
            self.assert_judged(True, "alike", (("a",) * 2,) * 2, (("a",) * 2,) * 2, symmetry)
        self.assert_judged(False, "alike", PATTERN, (("a",),), 0)

    def test_numbers_that_are_no_symmetry(self):
        for symmetry in (-1, -8, 8, 9, 10 ** 20):
            self.assert_judged(False, "alike", (("a",),), (("a",),), symmetry)

    def test_unlike(self):
        other = read_pattern("a a/b\nb b\n")
        form, second = canonical(PATTERN), canonical(other)
        self.assert_judged(True, "unlike", PATTERN, other, form, second)
        self.assert_judged(False, "unlike", PATTERN, other, second, form)
        self.assert_judged(False, "unlike", PATTERN, other, form, form)
        self.assert_judged(False, "unlike", PATTERN, PATTERN, form, form)
        for symmetry in range(8):
            moved = transformed(form, symmetry)
            self.assert_judged(moved == form, "unlike", PATTERN, other, moved, second)
            self.assert_judged(transformed(second, symmetry) == second,
                               "unlike", PATTERN, other, form, transformed(second, symmetry))
        self.assert_judged(False, "unlike", PATTERN, transformed(PATTERN, 1), form, transformed(form, 1))

    def test_sewn(self):
        cells = cells_as_patches(2, 2)
        self.assert_judged(True, "sewn", cells, [0, 1, "|", 2, 3, "|", "-"])
        for plan in ([], [0, 1, "|"], [0, 1, "|", 2, 3, "|"], [0, 1, "|", 3, 2, "|", "-"], [2, 3, "|", 0, 1, "|", "-"],
                     [0, 1, "|", 2, 3, "|", "|"], [0, 1, "|", 2, 4, "|", "-"], [0, 1, "|", 2, -1, "|", "-"],
                     [0, 1, "|", 2, 2, "|", "-"], [0, 1, "|", 2, 3, "|", "-", "-"]):
            self.assert_judged(False, "sewn", cells, plan)
        self.assert_judged(False, "sewn", PINWHEEL, [0, 1, "|", 2, "-", 3, "|", 4, "-"])

    def test_unsewn(self):
        self.assert_judged(True, "unsewn", PINWHEEL, PAPER)
        self.assert_judged(False, "unsewn", PINWHEEL, ((0, 0, 3, 3), (0, 3), (1, 2)))
        self.assert_judged(False, "unsewn", PINWHEEL, ((0, 0, 3, 2), (0,), (1, 2)))
        self.assert_judged(False, "unsewn", PINWHEEL, ((0, 0, 3, 3), (0, 4), (1,)))
        self.assert_judged(False, "unsewn", PINWHEEL, ((0, 0, 3, 3), (0, -1), (1, 2)))
        self.assert_judged(False, "unsewn", MIRRORED_PINWHEEL, PAPER)
        self.assert_judged(False, "unsewn", SPLIT, PAPER)
        # Right papers that are not the core paper hold, too.
        wide = ((0, 0, 1, 4), (0, 4, 2, 1), (1, 0, 2, 1), (1, 1, 1, 3), (2, 1, 1, 4))
        self.assert_judged(True, "unsewn", wide, ((0, 0, 3, 5), (0, 3, 4, 4), (1, 2)))

    def test_finish(self):
        cells, pattern = cells_as_patches(2, 2), (("a", "b"), ("c", "d"))
        self.assert_judged(True, "finish", pattern, cells, [(0, 1)], [(2, 3), (1, 3)])
        self.assert_judged(True, "finish", pattern, cells, [], [(2, 0), (1, 3), (3, 0)])
        self.assert_judged(True, "finish", pattern, cells, [(0, 1), (2, 3), (1, 3)], [])
        for joins, further in (([(0, 1)], [(2, 3)]), ([(0, 1)], [(1, 3), (2, 3)]), ([(0, 1)], [(2, 3), (1, 3), (0, 1)]),
                               ([(0, 1)], []), ([(0, 3)], [(0, 1), (2, 3), (1, 3)]), ([(0, 4)], []), ([(0, 0)], []),
                               ([(0, 1), (0, 1)], [(2, 3), (1, 3)]), ([(0, 1)], [(2, 3), (1, -1)]),
                               ([(0, 1), (2, 3), (1, 3), (0, 3)], [])):
            self.assert_judged(False, "finish", pattern, cells, joins, further)
        self.assert_judged(True, "finish", (("a",),), ((0, 0, 1, 1),), [], [])

    def test_stuck(self):
        self.assert_judged(True, "stuck", PLAIN, SPLIT, BAD_JOINS, PAPER)
        self.assert_judged(True, "stuck", PLAIN, SPLIT, BAD_JOINS[::-1], PAPER)
        self.assert_judged(True, "stuck", PLAIN, PINWHEEL, [], PAPER)
        # The paper tells sections in their order, not patches in theirs.
        self.assert_judged(True, "stuck", PLAIN, PINWHEEL[::-1], [], PAPER)
        self.assert_judged(False, "stuck", PLAIN, PINWHEEL[::-1], [], core_paper(PINWHEEL[::-1]))
        for joins, paper in ((BAD_JOINS[:1], PAPER), ([], PAPER), (BAD_JOINS, ((0, 0, 3, 3), (4, 0), (1, 2))),
                             (BAD_JOINS, ((0, 0, 3, 3), (0, 6), (2, 3))), ([*BAD_JOINS, (0, 1)], PAPER),
                             ([*BAD_JOINS, (0, 7)], PAPER), ([(0, 4), *BAD_JOINS], PAPER), ([(-1, 0)], PAPER)):
            self.assert_judged(False, "stuck", PLAIN, SPLIT, joins, paper)

    def test_cut(self):
        self.assert_judged(True, "cut", PIECES, 8, 8, ((0, 1), (2, 3)))
        self.assert_judged(True, "cut", PIECES, 8, 15, ((0,), (1,), (2,), (3,)))
        self.assert_judged(True, "cut", PIECES, 8, 9, ((0, 1), (2, 3)))
        self.assert_judged(True, "cut", [], 1, 0, ())
        for width, length, cutting in ((8, 7, ((0, 1), (2, 3))), (7, 8, ((0, 1), (2, 3))), (8, 8, ((0, 1), (2,))),
                                       (8, 8, ((2, 3), (0, 1))), (8, 8, ((1, 0), (2, 3))), (8, 8, ((0, 1), (2, 4))),
                                       (8, 8, ((0, 1), (), (2, 3))), (8, 8, ((0, 1), (1, 2, 3))), (8, 8, ()),
                                       (8, 14, ((0,), (1,), (2,), (3,))), (8, 8, ((-1, 0), (1, 2)))):
            self.assert_judged(False, "cut", PIECES, width, length, cutting)
        self.assert_judged(False, "cut", [], 1, -1, ())
        self.assert_judged(False, "cut", [(4, 6), (6, 3)], 7, 6, ((0, 1),))

    def test_not_cut(self):
        self.assert_judged(True, "not cut", PIECES, 8, 7)
        self.assert_judged(False, "not cut", PIECES, 8, 8)
        self.assert_judged(False, "not cut", PIECES, 8, 9)
        self.assert_judged(True, "not cut", PIECES, 5, 10 ** 6)
        self.assert_judged(False, "not cut", PIECES, 6, 15)
        self.assert_judged(True, "not cut", [(4, 6), (6, 3)], 7, 8)
        self.assert_judged(False, "not cut", [(4, 6), (6, 3)], 7, 9)
        self.assert_judged(False, "not cut", [], 1, 0)

    def test_exactly_one_of_cut_and_not_cut_can_hold(self):
        lot = random.Random(371)
        for _ in range(60):
            pieces = [(lot.randint(1, 9), lot.randint(1, 9)) for _ in range(lot.randint(1, 5))]
            length, cutting = best_cutting(pieces, 10)
            for told in (length - 1, length, length + 1):
                self.assert_judged(told >= length, "cut", pieces, 10, told, cutting)
                self.assert_judged(told < length, "not cut", pieces, 10, told)

    def test_claims_are_left_as_they_were(self):
        joins, further, plan = [(0, 1)], [(2, 3), (1, 3)], [0, 1, "|", 2, 3, "|", "-"]
        cells, pattern = cells_as_patches(2, 2), (("a", "b"), ("c", "d"))
        for _ in range(2):
            self.assert_judged(True, "finish", pattern, cells, joins, further)
            self.assert_judged(True, "sewn", cells, plan)
        self.assertEqual((joins, further, plan), ([(0, 1)], [(2, 3), (1, 3)], [0, 1, "|", 2, 3, "|", "-"]))


class JudgeAllTest(unittest.TestCase):
    def test_the_indices_of_claims_that_do_not_hold_in_order(self):
        right = [answer(question) for question in (
            ("alike", PATTERN, PATTERN), ("alike", PATTERN, (("a",),)), ("sewn", SPLIT), ("sewn", PINWHEEL),
            ("finish", PLAIN, SPLIT, []), ("finish", PLAIN, SPLIT, BAD_JOINS), ("cut", PIECES, 8, 8),
            ("cut", PIECES, 8, 7),
        )]
        wrong = [
            ("alike", PATTERN, (("a",),), 0), ("unlike", PATTERN, PATTERN, PATTERN, PATTERN), ("sewn", PINWHEEL, [0]),
            ("unsewn", SPLIT, PAPER), ("finish", PLAIN, SPLIT, [(0, 0)], []), ("stuck", PLAIN, SPLIT, [(9, 9)], PAPER),
            ("cut", PIECES, 8, 7, ((0, 1), (2, 3))), ("not cut", PIECES, 8, 8),
        ]
        self.assertEqual(judge_all([]), [])
        self.assertEqual(judge_all(right), [])
        self.assertEqual(judge_all(wrong), list(range(8)))
        self.assertEqual(judge_all([claim for pair in zip(right, wrong) for claim in pair]), list(range(1, 16, 2)))
        self.assertEqual(judge_all(wrong[:2] + right + wrong[2:3]), [0, 1, 10])

    def test_a_new_list(self):
        claims = [("not cut", [], 1, 0)]
        judge_all(claims).clear()
        self.assertEqual((judge_all(claims), claims), ([0], [("not cut", [], 1, 0)]))


if __name__ == "__main__":
    unittest.main()
