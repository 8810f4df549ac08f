"""Symmetries, the order of patterns, canonical forms and kinds: the points [5] to [7].

What a symmetry does is checked against a painting: each cell is painted as four triangles, one at each of
its sides, and the points of these triangles are moved like points of paper.
"""

import itertools
import random
import unittest

from sewnwhole.cells import cell_key
from sewnwhole.patterns import read_pattern
from sewnwhole.symmetries import (
    canonical, composed, first_naming, inverse, kind_of, pattern_key, stabilizer, symmetry_between, transformed,
)

# A pattern, not square, with plain and diagonal cells, that no symmetry but 0 leaves as it is.
FREE = (("a", "b/c", "d"), ("e\\f", "g", "h/a"))
CELLS_OF_TWO = ["a", "b", "a/b", "b/a", "a\\b", "b\\a"]


def painted(pattern):
    """Return a dict of the fabrics at the points (y, x) of a pattern: a cell is four points high and wide."""
    points = {}
    for row, cells in enumerate(pattern):
        for column, cell in enumerate(cells):
            above, below = cell[0], cell[-1]
            left, right = (below, above) if cell[1:2] == "\\" else (above, below)
            y, x = 4 * row + 2, 4 * column + 2
            points.update({(y - 1, x): above, (y + 1, x): below, (y, x - 1): left, (y, x + 1): right})
    return points


def moved(pattern, symmetry):
    """Return the painted points of a pattern as a symmetry moves them."""
    height, width = 4 * len(pattern), 4 * len(pattern[0])
    points = painted(pattern)
    if symmetry >= 4:
        points = {(y, width - x): fabric for (y, x), fabric in points.items()}
    for _ in range(symmetry % 4):
        points = {(x, height - y): fabric for (y, x), fabric in points.items()}
        height, width = width, height
    return points


def cell_less(first, second):
    """Tell whether a cell is less than another one, as [6] says it."""
    if (len(first) == 1) != (len(second) == 1):
        return len(first) == 1
    if len(first) == 3 and first[1] != second[1]:
        return first[1] == "/"
    if first[0] != second[0]:
        return first[0] < second[0]
    return first[-1] < second[-1]


def pattern_less(first, second):
    """Tell whether a pattern is less than another one, as [6] says it."""
    if len(first) != len(second):
        return len(first) < len(second)
    if len(first[0]) != len(second[0]):
        return len(first[0]) < len(second[0])
    for one, other in zip(itertools.chain(*first), itertools.chain(*second)):
        if one != other:
            return cell_less(one, other)
    return False


def least(patterns):
    """Return the least pattern of a list."""
    found = patterns[0]
    for pattern in patterns:
        if pattern_less(pattern, found):
            found = pattern
    return found


def patterns_of_size(height, width, cells):
    """Return the list of all patterns of a size with the given cells."""
    rows = list(itertools.product(cells, repeat=width))
    return list(itertools.product(rows, repeat=height))


def small_patterns():
    """Return the list of all patterns of up to two rows and columns with two fabrics."""
    sizes = [(1, 1), (1, 2), (2, 1), (2, 2)]
    return [pattern for height, width in sizes for pattern in patterns_of_size(height, width, CELLS_OF_TWO)]


def chance_patterns(many, fabrics="abc", side=4):
    """Return a list of patterns that look drawn by lot and are the same in every run."""
    lot = random.Random(7)
    cells = [*fabrics, *[a + slant + b for slant in "/\\" for a in fabrics for b in fabrics if a != b]]
    found = []
    for _ in range(many):
        height, width = lot.randint(1, side), lot.randint(1, side)
        found.append(tuple(tuple(lot.choice(cells) for _ in range(width)) for _ in range(height)))
    return found


class TransformedTest(unittest.TestCase):
    def test_all_eight_cell_by_cell(self):
        pattern = (("a", "b/c", "d"), ("e\\f", "g", "h/a"))
        expected = [
            (("a", "b/c", "d"), ("e\\f", "g", "h/a")),
            (("f/e", "a"), ("g", "b\\c"), ("h\\a", "d")),
            (("a/h", "g", "f\\e"), ("d", "c/b", "a")),
            (("d", "a\\h"), ("c\\b", "g"), ("a", "e/f")),
            (("d", "b\\c", "a"), ("h\\a", "g", "e/f")),
            (("a/h", "d"), ("g", "c/b"), ("e\\f", "a")),
            (("f/e", "g", "a\\h"), ("a", "c\\b", "d")),
            (("a", "f\\e"), ("b/c", "g"), ("d", "h/a")),
        ]
        self.assertEqual([transformed(pattern, symmetry) for symmetry in range(8)], expected)

    def test_plain_cells_of_a_pattern_that_is_not_square(self):
        pattern = (("a", "b", "c"), ("d", "e", "f"))
        expected = ["abc/def", "da/eb/fc", "fed/cba", "cf/be/ad", "cba/fed", "fc/eb/da", "def/abc", "ad/be/cf"]
        found = ["/".join("".join(row) for row in transformed(pattern, symmetry)) for symmetry in range(8)]
        self.assertEqual(found, expected)

    def test_diagonal_cells(self):
        turned = {"a/b": "a\\b", "a\\b": "b/a", "b/a": "b\\a", "b\\a": "a/b", "a": "a"}
        mirrored = {"a/b": "a\\b", "a\\b": "a/b", "b/a": "b\\a", "b\\a": "b/a", "a": "a"}
        for cell, result in turned.items():
            self.assertEqual(transformed(((cell,),), 1), ((result,),))
        for cell, result in mirrored.items():
            self.assertEqual(transformed(((cell,),), 4), ((result,),))

    def test_like_a_painting(self):
        for pattern in [FREE, *small_patterns(), *chance_patterns(300, "abcd", 10)]:
            for symmetry in range(8):
                self.assertEqual(painted(transformed(pattern, symmetry)), moved(pattern, symmetry))

    def test_one_row_and_one_column_of_ten(self):
        row = (("a", "b", "c", "d", "e", "f", "g", "h", "i", "j/k"),)
        column = tuple((cell,) for cell in row[0][:-1]) + (("j\\k",),)
        self.assertEqual(transformed(row, 1), column)
        self.assertEqual(transformed(row, 4), (("j\\k", "i", "h", "g", "f", "e", "d", "c", "b", "a"),))

    def test_results_are_patterns_and_the_argument_stays(self):
        pattern = (("a", "b/c"), ("d\\e", "f"), ("g", "h"))
        for symmetry in range(8):
            result = transformed(pattern, symmetry)
            self.assertIs(type(result), tuple)
            self.assertEqual({type(row) for row in result}, {tuple})
        self.assertEqual(pattern, (("a", "b/c"), ("d\\e", "f"), ("g", "h")))


class CompositionTest(unittest.TestCase):
    def test_the_free_pattern_is_free(self):
        self.assertEqual(len({transformed(FREE, symmetry) for symmetry in range(8)}), 8)

    def test_what_each_composition_does(self):
        for first in range(8):
            for second in range(8):
                result = composed(first, second)
                self.assertIs(type(result), int)
                self.assertIn(result, range(8))
                twice = transformed(transformed(FREE, first), second)
                self.assertEqual(transformed(FREE, result), twice, (first, second))

    def test_some_compositions(self):
        self.assertEqual(composed(1, 4), 7)
        self.assertEqual(composed(4, 1), 5)
        self.assertEqual(composed(3, 2), 1)
        self.assertEqual(composed(5, 6), 1)
        self.assertEqual(composed(6, 5), 3)
        self.assertEqual([composed(0, k) for k in range(8)], list(range(8)))
        self.assertEqual([composed(k, 0) for k in range(8)], list(range(8)))

    def test_what_each_inverse_does(self):
        for symmetry in range(8):
            result = inverse(symmetry)
            self.assertIs(type(result), int)
            self.assertEqual(transformed(transformed(FREE, symmetry), result), FREE)
            self.assertEqual(transformed(transformed(FREE, result), symmetry), FREE)
            self.assertEqual(composed(symmetry, result), 0)
            self.assertEqual(composed(result, symmetry), 0)

    def test_all_inverses(self):
        self.assertEqual([inverse(symmetry) for symmetry in range(8)], [0, 3, 2, 1, 4, 5, 6, 7])


class OrderTest(unittest.TestCase):
    def test_cells_in_their_order(self):
        ordered = ["a", "b", "c", "z",
                   "a/b", "a/c", "a/z", "b/a", "b/c", "b/z", "z/a", "z/b",
                   "a\\b", "a\\c", "b\\a", "b\\c", "z\\a", "z\\y"]
        for shift in range(len(ordered)):
            mixed = ordered[shift:] + ordered[:shift]
            self.assertEqual(sorted(mixed[::-1], key=cell_key), ordered)
        for one, other in itertools.product(ordered, repeat=2):
            self.assertEqual(cell_key(one) < cell_key(other), cell_less(one, other))

    def test_patterns_in_their_order(self):
        texts = [
            "z\\y", "a z\\y", "b a", "b z", "b a/z", "b b/a", "b a\\z", "z a", "a/b a", "a\\b a", "a a a", "z a a",
            "z\nz", "a a\na a", "a a\nb a", "a b\na a", "a a a\na a a", "a\na\na", "a a\na a\na a",
        ]
        ordered = [read_pattern(text) for text in texts]
        self.assertEqual(sorted(ordered[::-1], key=pattern_key), ordered)
        for one, other in itertools.product(ordered, repeat=2):
            self.assertEqual(pattern_key(one) < pattern_key(other), pattern_less(one, other))

    def test_all_small_patterns_against_the_words(self):
        patterns = patterns_of_size(1, 2, CELLS_OF_TWO) + patterns_of_size(2, 1, CELLS_OF_TWO)
        patterns += patterns_of_size(1, 1, CELLS_OF_TWO) + patterns_of_size(1, 3, ["a", "b/a", "b\\a"])
        for one, other in itertools.product(patterns, repeat=2):
            self.assertEqual(pattern_key(one) < pattern_key(other), pattern_less(one, other))


class CanonicalTest(unittest.TestCase):
    def test_some_canonical_forms(self):
        self.assertEqual(canonical((("a", "a/b"), ("b", "a"))), (("a", "b"), ("a/b", "a")))
        self.assertEqual(canonical((("c",), ("b",), ("a",))), (("a", "b", "c"),))
        self.assertEqual(canonical((("b\\a",),)), (("a/b",),))
        self.assertEqual(canonical((("b/a",),)), (("a/b",),))

    def test_fewer_rows_come_before_lesser_cells(self):
        self.assertEqual(canonical((("a/b", "b"), ("b", "a"), ("a", "a"))), (("a", "a", "b"), ("a", "b", "b/a")))
        self.assertEqual(canonical((("a",), ("b\\a",))), (("a", "b/a"),))

    def test_a_plain_cell_comes_before_a_diagonal_one_with_a_lesser_fabric(self):
        self.assertEqual(canonical((("a/b", "z"),)), (("z", "b/a"),))

    def test_the_least_of_the_eight(self):
        for pattern in [FREE, *small_patterns(), *chance_patterns(300)]:
            eight = [transformed(pattern, symmetry) for symmetry in range(8)]
            self.assertEqual(canonical(pattern), least(eight))

    def test_the_same_for_all_of_the_eight(self):
        for pattern in [FREE, *small_patterns(), *chance_patterns(100)]:
            form = canonical(pattern)
            self.assertEqual(canonical(form), form)
            for symmetry in range(8):
                self.assertEqual(canonical(transformed(pattern, symmetry)), form)

    def test_the_same_only_for_patterns_that_can_be_transformed_into_one_another(self):
        patterns = patterns_of_size(1, 2, CELLS_OF_TWO) + patterns_of_size(2, 1, CELLS_OF_TWO)
        for one, other in itertools.product(patterns, repeat=2):
            can_be = other in [transformed(one, symmetry) for symmetry in range(8)]
            self.assertEqual(canonical(one) == canonical(other), can_be)


class StabilizerTest(unittest.TestCase):
    def test_some_stabilizers(self):
        self.assertEqual(stabilizer((("a",),)), [0, 1, 2, 3, 4, 5, 6, 7])
        self.assertEqual(stabilizer((("a", "b"), ("b", "a"))), [0, 2, 5, 7])
        self.assertEqual(stabilizer((("a/b",),)), [0, 7])
        self.assertEqual(stabilizer((("a\\b",),)), [0, 5])
        self.assertEqual(stabilizer((("a", "b", "a"),)), [0, 2, 4, 6])
        self.assertEqual(stabilizer((("a", "b"),)), [0, 6])
        self.assertEqual(stabilizer((("a",), ("b",))), [0, 4])
        self.assertEqual(stabilizer((("a/b", "a\\b"), ("b\\a", "b/a"))), [0, 1, 2, 3, 4, 5, 6, 7])
        self.assertEqual(stabilizer((("a/b", "b\\a"), ("a\\b", "b/a"))), [0, 2, 5, 7])
        self.assertEqual(stabilizer((("a/b", "a/b"), ("b/a", "b/a"))), [0, 2])
        self.assertEqual(stabilizer(FREE), [0])

    def test_larger_patterns(self):
        self.assertEqual(stabilizer(read_pattern("a b a\na a b\nb a a\n")), [0, 5])
        self.assertEqual(stabilizer(read_pattern("a b c\nb a b\nc b b\n")), [0, 7])
        self.assertEqual(stabilizer(read_pattern("a b c a\nc d d b\nb d d c\na c b a\n")), [0, 1, 2, 3])

    def test_just_the_symmetries_that_leave_it(self):
        for pattern in [*small_patterns(), *chance_patterns(200)]:
            expected = [symmetry for symmetry in range(8) if moved(pattern, symmetry) == painted(pattern)]
            self.assertEqual(stabilizer(pattern), expected)

    def test_a_new_list(self):
        pattern = (("a", "b"), ("b", "a"))
        found = stabilizer(pattern)
        self.assertIs(type(found), list)
        found.clear()
        self.assertEqual(stabilizer(pattern), [0, 2, 5, 7])
        self.assertIsNot(stabilizer(pattern), stabilizer(pattern))


class SymmetryBetweenTest(unittest.TestCase):
    def test_the_only_one(self):
        for symmetry in range(8):
            self.assertEqual(symmetry_between(FREE, transformed(FREE, symmetry)), symmetry)

    def test_the_direction(self):
        self.assertEqual(symmetry_between((("a/b",),), (("a\\b",),)), 1)
        self.assertEqual(symmetry_between((("a\\b",),), (("a/b",),)), 3)
        self.assertEqual(symmetry_between((("a", "b"),), (("a",), ("b",))), 1)
        self.assertEqual(symmetry_between((("a",), ("b",)), (("a", "b"),)), 3)

    def test_the_least_of_several(self):
        self.assertEqual(symmetry_between((("a",),), (("a",),)), 0)
        self.assertEqual(symmetry_between((("a", "b"),), (("b", "a"),)), 2)
        self.assertEqual(symmetry_between((("a", "b"), ("b", "a")), (("b", "a"), ("a", "b"))), 1)
        for one in chance_patterns(150, "ab", 2):
            for symmetry in range(8):
                other = transformed(one, symmetry)
                them = [k for k in range(8) if moved(one, k) == painted(other)]
                self.assertEqual(symmetry_between(one, other), them[0])

    def test_none(self):
        self.assertIsNone(symmetry_between((("a", "b"),), (("a", "a"),)))
        self.assertIsNone(symmetry_between((("a", "a"),), (("a",),)))
        self.assertIsNone(symmetry_between((("a", "a"), ("a", "a")), (("a", "a"),)))
        self.assertIsNone(symmetry_between((("a/b",),), (("a/c",),)))
        self.assertIsNone(symmetry_between((("a",),), (("b",),)))
        changed = ((FREE[0][0], FREE[0][1], "e"), FREE[1])
        self.assertIsNone(symmetry_between(FREE, changed))


def renamed(pattern, names):
    """Return a pattern whose fabrics have other letters."""
    return tuple(tuple("".join(names.get(sign, sign) for sign in cell) for cell in row) for row in pattern)


def is_renaming(first, second):
    """Tell whether the second pattern can be made of the first one by a renaming."""
    one, other = ["\n".join(" ".join(row) for row in pattern) for pattern in (first, second)]
    pairs = set(zip(one, other))
    for sign, name in pairs:
        if sign.islower() != name.islower() or (not sign.islower() and sign != name):
            return False
    return len(one) == len(other) and len({a for a, _ in pairs}) == len(pairs) == len({b for _, b in pairs})


class KindsTest(unittest.TestCase):
    def test_the_order_of_the_names(self):
        self.assertEqual(first_naming((("z", "x"), ("y", "z"))), (("a", "b"), ("c", "a")))
        self.assertEqual(first_naming((("c", "b", "a"),)), (("a", "b", "c"),))
        self.assertEqual(first_naming((("b", "a"),)), (("a", "b"),))

    def test_the_first_fabric_before_the_second_one(self):
        self.assertEqual(first_naming((("z/y", "m"), ("y", "q\\z"))), (("a/b", "c"), ("b", "d\\a")))
        self.assertEqual(first_naming((("b\\a",),)), (("a\\b",),))
        self.assertEqual(first_naming((("x", "c/x"),)), (("a", "b/a"),))

    def test_all_letters(self):
        letters = "zyxwvutsrqponmlkjihgfedcba"
        pattern = (tuple(letters[:9]), tuple(letters[9:18]), tuple(letters[18:]) + ("a/z",))
        expected = (tuple("abcdefghi"), tuple("jklmnopqr"), tuple("stuvwxyz") + ("z/a",))
        self.assertEqual(first_naming(pattern), expected)

    def test_naming_again_changes_nothing(self):
        for pattern in [FREE, *small_patterns(), *chance_patterns(200, "qxcz")]:
            named = first_naming(pattern)
            self.assertTrue(is_renaming(pattern, named))
            self.assertEqual(first_naming(named), named)

    def test_some_kinds(self):
        self.assertEqual(kind_of((("c", "c", "x"),)), (("a", "a", "b"),))
        self.assertEqual(kind_of((("x", "c", "c"),)), (("a", "a", "b"),))
        self.assertEqual(kind_of((("q",), ("q",), ("b",))), (("a", "a", "b"),))
        self.assertEqual(kind_of((("y\\x",),)), (("a/b",),))
        self.assertEqual(kind_of((("b/a", "a"),)), (("a", "a/b"),))
        self.assertEqual(kind_of((("a/b", "a"),)), (("a", "b/a"),))

    def test_the_least_first_naming_and_not_the_naming_of_the_least(self):
        pattern = (("a", "b", "b"),)
        self.assertEqual(first_naming(canonical(pattern)), (("a", "b", "b"),))
        self.assertEqual(kind_of(pattern), (("a", "a", "b"),))

    def test_the_least_of_the_first_namings_of_the_eight(self):
        for pattern in [FREE, *small_patterns(), *chance_patterns(300)]:
            namings = [first_naming(transformed(pattern, symmetry)) for symmetry in range(8)]
            self.assertEqual(kind_of(pattern), least(namings))

    def test_the_same_for_all_symmetries_and_renamings(self):
        for pattern in [FREE, *small_patterns()[::7], *chance_patterns(60)]:
            kind = kind_of(pattern)
            self.assertEqual(kind_of(kind), kind)
            for symmetry in range(8):
                for letters in ("bcdefgha", "hgfedcba", "zqxymkpc"):
                    names = dict(zip("abcdefgh", letters))
                    self.assertEqual(kind_of(renamed(transformed(pattern, symmetry), names)), kind)

    def test_the_same_only_for_patterns_that_can_be_made_of_one_another(self):
        cells = ["a", "b", "c", "a/b", "b/a", "a/c", "b\\a", "b\\c", "c\\a"]
        patterns = patterns_of_size(1, 2, cells) + patterns_of_size(2, 1, cells[:6])
        for one in patterns:
            eight = [transformed(one, symmetry) for symmetry in range(8)]
            for other in patterns:
                can_be = any(is_renaming(form, other) for form in eight)
                self.assertEqual(kind_of(one) == kind_of(other), can_be, (one, other))


if __name__ == "__main__":
    unittest.main()
