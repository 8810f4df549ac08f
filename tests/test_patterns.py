"""Cells, patterns, their texts and half cells: the points [3], [4] and [8]."""

import string
import unittest

from sewnwhole.errors import SewnError, TextError
from sewnwhole.patterns import format_pattern, half_cells, read_pattern

FABRICS = "abcdefghijklmnopqrstuvwxyz"
DIAGONAL_CELLS = [
    first + slant + second for slant in "/\\" for first in FABRICS for second in FABRICS if first != second
]
ALL_CELLS = [*FABRICS, *DIAGONAL_CELLS]


def sample_pattern(height, width, shift=0):
    """Return a pattern that has plain and diagonal cells in turn, with other fabrics everywhere."""
    cells = [ALL_CELLS[(k * 67 + shift) % len(ALL_CELLS)] if k % 2 else FABRICS[(k * 3 + shift) % 26]
             for k in range(height * width)]
    return tuple(tuple(cells[row * width:(row + 1) * width]) for row in range(height))


class TextsTest(unittest.TestCase):
    def test_a_text_and_its_pattern(self):
        pattern = (("a", "b/c", "z"), ("c\\b", "q", "a"))
        text = "a b/c z\nc\\b q a\n"
        self.assertEqual(read_pattern(text), pattern)
        self.assertEqual(format_pattern(pattern), text)

    def test_the_smallest_pattern(self):
        self.assertEqual(read_pattern("a\n"), (("a",),))
        self.assertEqual(format_pattern((("a",),)), "a\n")
        self.assertEqual(read_pattern("x\\y"), (("x\\y",),))

    def test_patterns_are_tuples_of_tuples_of_strings(self):
        pattern = read_pattern("a b\nc d/e\n")
        self.assertIs(type(pattern), tuple)
        self.assertEqual([type(row) for row in pattern], [tuple, tuple])
        self.assertEqual({type(cell) for row in pattern for cell in row}, {str})

    def test_patterns_of_all_sizes_come_back_from_their_texts(self):
        for height in range(1, 11):
            for width in range(1, 11):
                pattern = sample_pattern(height, width, height + width)
                text = format_pattern(pattern)
                self.assertEqual(text.count("\n"), height)
                self.assertTrue(text.endswith("\n"))
                self.assertEqual(read_pattern(text), pattern)
                self.assertEqual(read_pattern(text[:-1]), pattern)

    def test_all_cells_come_back_from_their_texts(self):
        self.assertEqual(len(ALL_CELLS), 26 + 2 * 26 * 25)
        for cell in ALL_CELLS:
            self.assertEqual(read_pattern(cell + "\n"), ((cell,),))
            self.assertEqual(format_pattern(((cell,),)), cell + "\n")


class FaultsTest(unittest.TestCase):
    def assert_fault(self, text, line, what):
        with self.assertRaises(TextError, msg=repr(text)) as caught:
            read_pattern(text)
        self.assertEqual((caught.exception.line, caught.exception.what), (line, what), repr(text))
        self.assertIsInstance(caught.exception, SewnError)

    def test_no_rows(self):
        self.assert_fault("", 1, "no rows")

    def test_a_single_newline_is_an_empty_line(self):
        self.assert_fault("\n", 1, "not a cell")
        self.assert_fault("\n\n", 1, "not a cell")

    def test_an_empty_line(self):
        self.assert_fault("\na\n", 1, "not a cell")
        self.assert_fault("a\n\nb\n", 2, "not a cell")
        self.assert_fault("a\nb\n\n", 3, "not a cell")

    def test_empty_words(self):
        for line in (" ", "  ", "a  b", " a", "a ", " a b", "a b ", "a   b", " a/b", "a\\b "):
            self.assert_fault(line, 1, "not a cell")
            self.assert_fault(line + "\n", 1, "not a cell")
            self.assert_fault("a b\n" + line + "\n", 2, "not a cell")

    def test_words_that_are_no_cell(self):
        words = [
            "A", "Z", "1", "/", "\\", "-", "~", "`", "{", "@", "[", "!",
            "ab", "a/", "/a", "a\\", "\\a", "aa", "//", "az",
            "abc", "a|b", "a-b", "a.b", "aab", "a0b", "///", "\\\\\\", "a//", "//a", "a\\\\",
            "A/b", "a/B", "A\\b", "a\\B", "A/B", "1/b", "a/1", "`/b", "a/{",
            "a/bc", "ab/c", "a/b/", "/a/b", "a//b", "a\\\\b", "a/b/c", "a/b\\c", "abcd", "aaaa", "abcdefghij",
        ]
        for word in words:
            self.assert_fault(word + "\n", 1, "not a cell")
            self.assert_fault("a b c\nd " + word + " e\n", 2, "not a cell")

    def test_equal_fabrics_in_a_diagonal_cell(self):
        for fabric in FABRICS:
            self.assert_fault(fabric + "/" + fabric, 1, "not a cell")
            self.assert_fault(fabric + "\\" + fabric, 1, "not a cell")

    def test_single_characters_that_are_cells(self):
        for sign in string.printable[:95].replace("%", "").replace(" ", ""):
            if sign in FABRICS:
                self.assertEqual(read_pattern(sign), ((sign,),))
            else:
                self.assert_fault(sign, 1, "not a cell")

    def test_characters_between_the_fabrics_of_a_diagonal_cell(self):
        for sign in string.printable[:95].replace("%", "").replace(" ", ""):
            if sign in "/\\":
                self.assertEqual(read_pattern("a" + sign + "b"), (("a" + sign + "b",),))
            else:
                self.assert_fault("a" + sign + "b", 1, "not a cell")

    def test_too_many_rows(self):
        self.assertEqual(len(read_pattern("a\n" * 10)), 10)
        self.assert_fault("a\n" * 11, 11, "too many rows")
        self.assert_fault("a\n" * 10 + "a", 11, "too many rows")
        self.assert_fault("a\n" * 30, 11, "too many rows")

    def test_too_many_columns(self):
        row = " ".join("abcdefghij")
        self.assertEqual(read_pattern(row + "\n" + row), (tuple("abcdefghij"),) * 2)
        self.assert_fault(row + " k\n", 1, "too many columns")
        self.assert_fault(row + "\n" + row + " a/b\n", 2, "too many columns")
        self.assert_fault(" ".join("a" * 30), 1, "too many columns")

    def test_another_length(self):
        self.assert_fault("a b\nc\n", 2, "another length")
        self.assert_fault("a b\nc d e\n", 2, "another length")
        self.assert_fault("a\nb\nc d\n", 3, "another length")
        self.assert_fault("a/b c\\d\n" * 9 + "a/b\n", 10, "another length")

    def test_the_first_fault_of_a_line(self):
        eleven = " ".join("abcdefghijk")
        above = "a b\n" * 10
        for line in ("", "A b", "a  b", eleven, "a", "A " + eleven):
            self.assert_fault(above + line + "\n", 11, "too many rows")
        self.assert_fault("A " + eleven, 1, "not a cell")
        self.assert_fault(eleven + " a/a", 1, "not a cell")
        self.assert_fault(eleven + " ", 1, "not a cell")
        self.assert_fault("a b\n" + eleven + " A\n", 2, "not a cell")
        self.assert_fault("a b\nc D e\n", 2, "not a cell")
        self.assert_fault("a b\nC\n", 2, "not a cell")
        self.assert_fault("a b\n" + eleven + "\n", 2, "too many columns")

    def test_the_first_faulty_line(self):
        eleven = " ".join("abcdefghijk")
        self.assert_fault("a b\nc\nD e\n", 2, "another length")
        self.assert_fault("a b\nD e\nc\n", 2, "not a cell")
        self.assert_fault("a b\n" + eleven + "\nc\nD e\n", 2, "too many columns")
        self.assert_fault(eleven + "\nA\n", 1, "too many columns")
        self.assert_fault("a\n\n" + "a\n" * 20, 2, "not a cell")
        self.assert_fault("a\n" * 9 + "a b\n" + "a\n" * 5, 10, "another length")
        self.assert_fault("\n" * 20, 1, "not a cell")


class HalfCellsTest(unittest.TestCase):
    def test_plain_cells_have_two_halves(self):
        self.assertEqual(half_cells((("a",),)), [("a", 2)])
        self.assertEqual(half_cells((("b", "a", "b"), ("b", "b", "c"))), [("a", 2), ("b", 8), ("c", 2)])

    def test_diagonal_cells_have_a_half_of_each(self):
        self.assertEqual(half_cells((("b/a",),)), [("a", 1), ("b", 1)])
        self.assertEqual(half_cells((("x\\c",),)), [("c", 1), ("x", 1)])
        self.assertEqual(half_cells((("b/a", "a\\c"),)), [("a", 2), ("b", 1), ("c", 1)])

    def test_plain_and_diagonal_cells_together(self):
        pattern = (("a", "a/b"), ("b", "a"))
        self.assertEqual(half_cells(pattern), [("a", 5), ("b", 3)])
        self.assertEqual(half_cells((("z", "b/z"), ("b\\a", "z"))), [("a", 1), ("b", 2), ("z", 5)])

    def test_all_fabrics_in_alphabetical_order(self):
        pattern = (tuple(reversed(FABRICS[:10])), tuple(FABRICS[10:20]), tuple(reversed(FABRICS[16:])))
        expected = [(fabric, 4 if fabric in "qrst" else 2) for fabric in FABRICS]
        self.assertEqual(half_cells(pattern), expected)

    def test_only_seen_fabrics_and_together_twice_the_number_of_cells(self):
        for height in range(1, 11):
            for width in range(1, 11):
                pattern = sample_pattern(height, width)
                found = half_cells(pattern)
                text = format_pattern(pattern)
                self.assertEqual([fabric for fabric, _ in found], [f for f in FABRICS if f in text])
                self.assertEqual(sum(many for _, many in found), 2 * height * width)
                for fabric, many in found:
                    words = text.split()
                    plain = words.count(fabric)
                    triangles = sum(1 for word in words if len(word) == 3 and fabric in word)
                    self.assertEqual(many, 2 * plain + triangles)

    def test_a_new_list_of_pairs(self):
        pattern = (("b", "a"),)
        found = half_cells(pattern)
        self.assertIs(type(found), list)
        self.assertEqual([type(pair) for pair in found], [tuple, tuple])
        found.clear()
        self.assertEqual(half_cells(pattern), [("a", 2), ("b", 2)])
        self.assertIsNot(half_cells(pattern), half_cells(pattern))


if __name__ == "__main__":
    unittest.main()
