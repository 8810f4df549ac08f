"""Blocks, layouts, decomposition, repeats and tilings: the points [9] to [11]."""

import itertools
import random
import unittest

from sewnwhole.errors import LayoutError, SewnError
from sewnwhole.layouts import arranged, decomposed, repeat_of, tiled, transformed_layout, unit_of
from sewnwhole.symmetries import canonical, composed, stabilizer, symmetry_between, transformed

# Blocks of one to three rows that no symmetry but 0 leaves as they are, except for the single cells.
SINGLES = (("a",),), (("b/c",),), (("d\\a",),)
PAIRS = (("a", "b"), ("a", "a")), (("a/b", "c"), ("d", "c\\e")), (("f", "f"), ("g", "f/g"))
TRIPLES = (
    (("a", "b", "c"), ("d", "e/f", "g"), ("h", "i\\j", "k")),
    (("a", "a", "a"), ("a", "a", "b"), ("a", "a", "a/b")),
    (("z/y", "y\\z", "z"), ("z", "y", "x"), ("y", "z", "z")),
)
TURNED = {"a/b": "a\\b", "a\\b": "b/a", "b/a": "b\\a", "b\\a": "a/b", "a": "a", "b": "b"}
MIRRORED = {"a/b": "a\\b", "a\\b": "a/b", "b/a": "b\\a", "b\\a": "b/a", "a": "a", "b": "b"}


def chance_pattern(lot, height, width, cells):
    """Return a pattern of a size whose cells are drawn by lot."""
    return tuple(tuple(lot.choice(cells) for _ in range(width)) for _ in range(height))


def chance_layout(lot, blocks, height, width):
    """Return a layout of a size whose entries are drawn by lot."""
    return tuple(tuple((lot.randrange(blocks), lot.randrange(8)) for _ in range(width)) for _ in range(height))


def changed_cell(cell, symmetry):
    """Return what a symmetry makes of a cell, by the words of [5]."""
    fabrics = [cell[0], cell[-1]]
    form = "a" + cell[1:2] + "b" if len(cell) == 3 else "a"
    if symmetry >= 4:
        form = MIRRORED[form]
    for _ in range(symmetry % 4):
        form = TURNED[form]
    return "".join(fabrics["ab".index(sign)] if sign in "ab" else sign for sign in form)


def place_behind(row, column, size, symmetry):
    """Return the place where a symmetry takes a place of a block with so many rows and columns."""
    if symmetry >= 4:
        column = size - 1 - column
    for _ in range(symmetry % 4):
        row, column = column, size - 1 - row
    return row, column


def painted(blocks, layout):
    """Return a dict of the cells of an arranged pattern, painted cell by cell."""
    size = len(blocks[0])
    cells = {}
    for down, entries in enumerate(layout):
        for across, (block, symmetry) in enumerate(entries):
            for row, column in itertools.product(range(size), repeat=2):
                there, beside = place_behind(row, column, size, symmetry)
                cell = changed_cell(blocks[block][row][column], symmetry)
                cells[down * size + there, across * size + beside] = cell
    return cells


def cells_of_pattern(pattern):
    """Return a dict of the cells of a pattern."""
    return {(row, column): cell for row, cells in enumerate(pattern) for column, cell in enumerate(cells)}


class LayoutsTest(unittest.TestCase):
    def assert_fault(self, what, function, *arguments):
        with self.assertRaises(LayoutError) as caught:
            function(*arguments)
        self.assertEqual(caught.exception.what, what)
        self.assertIsInstance(caught.exception, SewnError)

    def assert_pattern(self, pattern):
        self.assertIs(type(pattern), tuple)
        self.assertEqual({type(row) for row in pattern}, {tuple})
        self.assertEqual({type(cell) for row in pattern for cell in row}, {str})
        self.assertEqual(len({len(row) for row in pattern}), 1)


class ArrangedTest(LayoutsTest):
    def test_a_block_and_its_turns(self):
        block = (("a", "b"), ("a", "a"))
        self.assertEqual(arranged((block,), (((0, 0),),)), block)
        self.assertEqual(arranged((block,), (((0, 0), (0, 1)),)), (("a", "b", "a", "a"), ("a", "a", "a", "b")))
        self.assertEqual(arranged((block,), (((0, 2),), ((0, 4),))), (("a", "a"), ("b", "a"), ("b", "a"), ("a", "a")))

    def test_diagonal_cells_change_with_their_block(self):
        blocks = ((("a/b",),), (("c",),))
        layout = (((0, 0), (0, 1), (1, 5)), ((0, 2), (0, 3), (0, 4)))
        self.assertEqual(arranged(blocks, layout), (("a/b", "a\\b", "c"), ("b/a", "b\\a", "a\\b")))

    def test_one_to_three_blocks_with_all_symmetries_cell_by_cell(self):
        for blocks in (SINGLES, PAIRS, TRIPLES):
            for many in (1, 2, 3):
                for symmetry in range(8):
                    entries = tuple((number, (symmetry + number) % 8) for number in range(many))
                    for layout in ((entries,), tuple((entry,) for entry in entries), (entries, entries[::-1])):
                        pattern = arranged(blocks[:many], layout)
                        self.assert_pattern(pattern)
                        self.assertEqual(cells_of_pattern(pattern), painted(blocks[:many], layout))

    def test_layouts_by_lot_cell_by_cell(self):
        lot = random.Random(9)
        for blocks in (SINGLES, PAIRS, TRIPLES):
            largest = 10 // len(blocks[0])
            for _ in range(60):
                layout = chance_layout(lot, 3, lot.randint(1, largest), lot.randint(1, largest))
                self.assertEqual(cells_of_pattern(arranged(blocks, layout)), painted(blocks, layout))

    def test_a_block_may_be_left_out_or_be_there_twice(self):
        self.assertEqual(arranged(SINGLES, (((2, 0), (2, 0)),)), (("d\\a", "d\\a"),))
        self.assertEqual(arranged(((("a",),), (("a",),)), (((1, 0), (0, 3)),)), (("a", "a"),))

    def test_too_large_just_beyond_ten_rows_or_columns(self):
        lot = random.Random(10)
        for size in range(1, 11):
            blocks = (chance_pattern(lot, size, size, ["a", "b", "a/b"]),)
            for down, across in itertools.product(range(1, 13), repeat=2):
                layout = (((0, 0),) * across,) * down
                if size * down > 10 or size * across > 10:
                    self.assert_fault("too large", arranged, blocks, layout)
                else:
                    pattern = arranged(blocks, layout)
                    self.assertEqual((len(pattern), len(pattern[0])), (size * down, size * across))

    def test_the_largest_that_are_not_too_large(self):
        for size in (1, 2, 5, 10):
            block = tuple(tuple("ab" * 5)[:size] for _ in range(size))
            pattern = arranged((block,), (((0, 0),) * (10 // size),) * (10 // size))
            self.assertEqual([len(row) for row in pattern], [10] * 10)
        self.assertEqual(len(arranged(TRIPLES, (((0, 0),),) * 3)), 9)
        self.assert_fault("too large", arranged, TRIPLES, (((0, 0),),) * 4)
        self.assert_fault("too large", arranged, TRIPLES, (((0, 0),) * 4,))


class TransformedLayoutTest(LayoutsTest):
    def test_some_layouts(self):
        layout = (((0, 0), (1, 3), (2, 4)),)
        self.assertEqual(transformed_layout(layout, 0), layout)
        self.assertEqual(transformed_layout(layout, 1), (((0, 1),), ((1, 0),), ((2, 5),)))
        self.assertEqual(transformed_layout(layout, 2), (((2, 6), (1, 1), (0, 2)),))
        self.assertEqual(transformed_layout(layout, 4), (((2, 0), (1, 5), (0, 4)),))
        square = (((0, 0), (1, 0)), ((2, 0), (3, 0)))
        self.assertEqual(transformed_layout(square, 3), (((1, 3), (3, 3)), ((0, 3), (2, 3))))

    def test_the_blocks_have_no_symmetry_of_their_own(self):
        for block in (*PAIRS[1:], *TRIPLES[:1], TRIPLES[2]):
            self.assertEqual(stabilizer(block), [0])

    def test_what_it_is_arranged_to(self):
        lot = random.Random(11)
        for blocks in (PAIRS[1:], (TRIPLES[0], TRIPLES[2])):
            for _ in range(40):
                layout = chance_layout(lot, 2, lot.randint(1, 3), lot.randint(1, 3))
                pattern = arranged(blocks, layout)
                for symmetry in range(8):
                    moved = transformed_layout(layout, symmetry)
                    self.assertEqual(arranged(blocks, moved), transformed(pattern, symmetry))

    def test_each_entry_with_each_symmetry(self):
        for own, symmetry in itertools.product(range(8), repeat=2):
            moved = transformed_layout((((0, own),),), symmetry)
            self.assertEqual(arranged(TRIPLES, moved), transformed(transformed(TRIPLES[0], own), symmetry))
            self.assertIn(moved[0][0][1], range(8))

    def test_two_symmetries_are_as_their_composition(self):
        layout = (((0, 0), (1, 5), (0, 2)), ((1, 7), (2, 3), (3, 6)))
        for first, second in itertools.product(range(8), repeat=2):
            twice = transformed_layout(transformed_layout(layout, first), second)
            self.assertEqual(twice, transformed_layout(layout, composed(first, second)))

    def test_a_layout_of_tuples_and_the_argument_stays(self):
        layout = (((0, 0), (1, 5)),)
        for symmetry in range(8):
            moved = transformed_layout(layout, symmetry)
            self.assertEqual((type(moved), {type(row) for row in moved}), (tuple, {tuple}))
            self.assertEqual({type(entry) for row in moved for entry in row}, {tuple})
        self.assertEqual(layout, (((0, 0), (1, 5)),))


class DecomposedTest(LayoutsTest):
    def test_some_patterns(self):
        pattern = (("a", "b", "a", "a"), ("a", "a", "a", "b"))
        self.assertEqual(decomposed(pattern, 2), (((("a", "a"), ("a", "b")),), (((0, 3), (0, 0)),)))
        self.assertEqual(decomposed(pattern, 1), (
            ((("a",),), (("b",),)),
            (((0, 0), (1, 0), (0, 0), (0, 0)), ((0, 0), (0, 0), (0, 0), (1, 0))),
        ))
        self.assertEqual(decomposed((("b\\a", "c"), ("a\\b", "b/a")), 1), (
            ((("a/b",),), (("c",),)), (((0, 3), (1, 0)), ((0, 1), (0, 2))),
        ))

    def test_a_pattern_that_is_one_square(self):
        for block in (*SINGLES, *PAIRS, *TRIPLES):
            blocks, layout = decomposed(block, len(block))
            self.assertEqual(blocks, (canonical(block),))
            self.assertEqual(layout, (((0, symmetry_between(canonical(block), block)),),))

    def test_the_blocks_in_the_order_in_which_they_occur_first(self):
        pattern = (("c", "a", "c"), ("b", "a", "d"))
        self.assertEqual(decomposed(pattern, 1), (
            ((("c",),), (("a",),), (("b",),), (("d",),)),
            (((0, 0), (1, 0), (0, 0)), ((2, 0), (1, 0), (3, 0))),
        ))

    def test_the_least_symmetry_of_each_square(self):
        pattern = (("b", "a", "a", "b"), ("a", "b", "b", "a"), ("a", "a", "b", "a"), ("b", "b", "b", "a"))
        self.assertEqual(decomposed(pattern, 2), (
            ((("a", "b"), ("b", "a")), (("a", "a"), ("b", "b"))),
            (((0, 1), (0, 0)), ((1, 0), (1, 1))),
        ))

    def test_patterns_by_lot(self):
        lot = random.Random(12)
        for _ in range(150):
            size, down, across = lot.choice([(1, 4, 5), (2, 3, 2), (2, 5, 5), (3, 2, 3), (4, 1, 2), (5, 2, 2)])
            forms = [chance_pattern(lot, size, size, lot.choice([["a", "b"], ["a", "a/b", "b"]])) for _ in range(3)]
            pattern = arranged(tuple(forms), chance_layout(lot, 3, down, across))
            blocks, layout = decomposed(pattern, size)
            self.assertEqual(arranged(blocks, layout), pattern)
            self.assert_decomposed(blocks, layout, pattern, size)

    def assert_decomposed(self, blocks, layout, pattern, size):
        seen = []
        for down, entries in enumerate(layout):
            for across, (number, symmetry) in enumerate(entries):
                rows = pattern[down * size:(down + 1) * size]
                square = tuple(row[across * size:(across + 1) * size] for row in rows)
                if canonical(square) not in seen:
                    seen.append(canonical(square))
                self.assertEqual(blocks[number], canonical(square))
                them = [k for k in range(8) if transformed(blocks[number], k) == square]
                self.assertEqual(symmetry, them[0])
        self.assertEqual(blocks, tuple(seen))
        self.assertEqual((len(layout) * size, len(layout[0]) * size), (len(pattern), len(pattern[0])))

    def test_arranged_with_other_blocks_it_is_decomposed_to_the_least(self):
        block = (("a", "b"), ("a", "a"))
        turned = tuple(transformed(block, symmetry) for symmetry in range(8))
        layout = (tuple((number, 0) for number in range(4)), tuple((number, 0) for number in range(4, 8)))
        blocks, found = decomposed(arranged(turned, layout), 2)
        self.assertEqual(blocks, (canonical(block),))
        self.assertEqual(len({symmetry for row in found for _, symmetry in row}), 4)

    def test_sizes_that_do_not_divide(self):
        lot = random.Random(13)
        for height, width in itertools.product(range(1, 11), repeat=2):
            pattern = chance_pattern(lot, height, width, ["a", "b"])
            for size in range(1, 12):
                if height % size or width % size:
                    self.assert_fault("size does not divide", decomposed, pattern, size)
                else:
                    self.assertEqual(arranged(*decomposed(pattern, size)), pattern)

    def test_sizes_that_divide_only_the_rows_or_only_the_columns(self):
        self.assert_fault("size does not divide", decomposed, (("a", "a", "a"),) * 2, 2)
        self.assert_fault("size does not divide", decomposed, (("a", "a"),) * 3, 2)
        self.assert_fault("size does not divide", decomposed, (("a", "a", "a"),) * 3, 2)
        self.assert_fault("size does not divide", decomposed, (("a", "a"),) * 2, 4)
        self.assert_fault("size does not divide", decomposed, (("a",),), 0)

    def test_tuples_throughout(self):
        result = decomposed((("a", "b"), ("b", "a")), 1)
        blocks, layout = result
        self.assertEqual((type(result), type(blocks), type(layout)), (tuple, tuple, tuple))
        self.assertEqual({type(row) for row in layout}, {tuple})
        self.assertEqual({type(entry) for row in layout for entry in row}, {tuple})
        for block in blocks:
            self.assert_pattern(block)


def repeat_by_words(lines):
    """Return the least number that divides that of the lines, each of which is as the one so many before it."""
    return [many for many in range(1, len(lines) + 1) if len(lines) % many == 0
            and all(lines[k] == lines[k - many] for k in range(many, len(lines)))][0]


class RepeatsTest(LayoutsTest):
    def test_repeats_in_both_directions(self):
        self.assertEqual(repeat_of((("a", "b", "a", "b"),) * 2 + (("c", "d", "c", "d"),) * 2), (4, 2))
        self.assertEqual(repeat_of((("a", "b", "c"), ("a/b", "b", "b")) * 3), (2, 3))
        self.assertEqual(repeat_of((("a",) * 10,) * 10), (1, 1))
        self.assertEqual(repeat_of((("a", "b", "c") * 3,) * 7), (1, 3))

    def test_patterns_that_do_not_repeat(self):
        for pattern in ((("a",),), (("a", "b"),), (("a", "b"), ("c", "d")), (("a", "b", "c"), ("c", "a", "b"))):
            self.assertEqual(repeat_of(pattern), (len(pattern), len(pattern[0])))
            self.assertEqual(unit_of(pattern), pattern)

    def test_a_number_that_repeats_but_does_not_divide(self):
        self.assertEqual(repeat_of((("a",), ("b",), ("a",))), (3, 1))
        self.assertEqual(repeat_of((("a", "b", "a", "b", "a"),)), (1, 5))
        self.assertEqual(repeat_of((("a", "b", "c", "a", "b", "c", "a", "b"),)), (1, 8))
        self.assertEqual(repeat_of((("a", "b", "a", "a", "b", "a"),)), (1, 3))

    def test_a_half_that_is_turned_or_mirrored_does_not_repeat(self):
        self.assertEqual(repeat_of((("a", "b", "b", "a"),)), (1, 4))
        self.assertEqual(repeat_of((("a/b", "a\\b"),)), (1, 2))
        self.assertEqual(repeat_of((("a/b", "b/a"),)), (1, 2))

    def test_units(self):
        self.assertEqual(unit_of((("a", "b", "a", "b"), ("c", "d", "c", "d"))), (("a", "b"), ("c", "d")))
        self.assertEqual(unit_of((("a", "a"), ("b", "b"), ("a", "a"), ("b", "b"))), (("a",), ("b",)))

    def test_by_the_words_for_patterns_by_lot(self):
        lot = random.Random(14)
        for _ in range(400):
            rows = chance_pattern(lot, lot.randint(1, 3), lot.randint(1, 4), ["a", "b"])
            pattern = tiled(rows, lot.randint(1, 3), lot.randint(1, 2))
            repeat = repeat_of(pattern)
            self.assertEqual(repeat, (repeat_by_words(pattern), repeat_by_words(list(zip(*pattern)))))
            self.assertIs(type(repeat), tuple)
            unit = unit_of(pattern)
            self.assert_pattern(unit)
            self.assertEqual((len(unit), len(unit[0])), repeat)
            self.assertEqual(tiled(unit, len(pattern) // repeat[0], len(pattern[0]) // repeat[1]), pattern)
            self.assertEqual(repeat_of(unit), repeat)


class TiledTest(LayoutsTest):
    def test_some_tilings(self):
        self.assertEqual(tiled((("a", "b/c"),), 1, 1), (("a", "b/c"),))
        self.assertEqual(tiled((("a", "b/c"),), 2, 1), (("a", "b/c"), ("a", "b/c")))
        self.assertEqual(tiled((("a", "b/c"),), 1, 2), (("a", "b/c", "a", "b/c"),))
        self.assertEqual(tiled((("a",), ("b",)), 2, 3), (("a",) * 3, ("b",) * 3, ("a",) * 3, ("b",) * 3))

    def test_cell_by_cell_and_too_large_just_beyond_ten(self):
        lot = random.Random(15)
        for height, width in itertools.product((1, 2, 3, 5, 6, 10), repeat=2):
            pattern = chance_pattern(lot, height, width, ["a", "b", "c\\d"])
            for down, across in itertools.product(range(1, 12), repeat=2):
                if height * down > 10 or width * across > 10:
                    self.assert_fault("too large", tiled, pattern, down, across)
                else:
                    expected = tuple(tuple(pattern[row % height][column % width] for column in range(width * across))
                                     for row in range(height * down))
                    self.assertEqual(tiled(pattern, down, across), expected)
                    self.assert_pattern(tiled(pattern, down, across))

    def test_too_large_in_one_direction_only(self):
        self.assert_fault("too large", tiled, (("a",),), 11, 1)
        self.assert_fault("too large", tiled, (("a",),), 1, 11)
        self.assertEqual(tiled((("a",),), 10, 10), (("a",) * 10,) * 10)


if __name__ == "__main__":
    unittest.main()
