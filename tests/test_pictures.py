"""Pictures of patches: the point [13]."""

import random
import unittest

from helpers import PINWHEEL
from sewnwhole.errors import PatchError, SewnError, TextError
from sewnwhole.patches import check_patches
from sewnwhole.pictures import picture, read_picture

NAMES = "ABCDEFGHIJKLMNOPQRSTUVWXYZabcdefghijklmnopqrstuvwxyz"


def cells(height, width):
    """Return patches of single cells, row by row."""
    return tuple((row, column, 1, 1) for row in range(height) for column in range(width))


def painted(patches):
    """Return the picture of patches, painted cell by cell in the order in which they occur."""
    names, text = {}, ""
    rows, columns = max(patch[0] + patch[2] for patch in patches), max(patch[1] + patch[3] for patch in patches)
    for row in range(rows):
        for column in range(columns):
            patch = [(top, left, height, width) for top, left, height, width in patches
                     if top <= row < top + height and left <= column < left + width][0]
            text += names.setdefault(patch, NAMES[len(names)])
        text += "\n"
    return text


def banded_patches(lot, height, width):
    """Return patches that are drawn by lot, in the order in which they occur first."""
    patches = []
    bands = [0, *sorted(lot.sample(range(1, height), lot.randint(0, min(3, height - 1)))), height]
    for top, bottom in zip(bands, bands[1:]):
        cuts = [0, *sorted(lot.sample(range(1, width), lot.randint(0, min(4, width - 1)))), width]
        patches += [(top, left, bottom - top, right - left) for left, right in zip(cuts, cuts[1:])]
    return tuple(patches)


class PictureTest(unittest.TestCase):
    def test_some_pictures(self):
        self.assertEqual(picture(((0, 0, 1, 1),)), "A\n")
        self.assertEqual(picture(((0, 0, 2, 3),)), "AAA\nAAA\n")
        self.assertEqual(picture(PINWHEEL), "AAB\nCDB\nCEE\n")

    def test_the_names_do_not_depend_on_the_order_of_the_patches(self):
        lot = random.Random(22)
        for _ in range(20):
            patches = list(PINWHEEL)
            lot.shuffle(patches)
            self.assertEqual(picture(tuple(patches)), "AAB\nCDB\nCEE\n")
        self.assertEqual(picture(((1, 0, 1, 1), (0, 1, 2, 1), (0, 0, 1, 1))), "AB\nCB\n")

    def test_the_names_in_their_order(self):
        self.assertEqual(picture(cells(4, 10)), "ABCDEFGHIJ\nKLMNOPQRST\nUVWXYZabcd\nefghijklmn\n")
        self.assertEqual(picture(cells(1, 10)), "ABCDEFGHIJ\n")
        self.assertEqual(picture(cells(10, 1)[::-1]), "A\nB\nC\nD\nE\nF\nG\nH\nI\nJ\n")

    def test_52_patches_and_53(self):
        most = cells(5, 10) + ((5, 0, 1, 5), (5, 5, 1, 5))
        self.assertEqual(len(most), 52)
        self.assertEqual(picture(most).splitlines()[4:], ["opqrstuvwx", "yyyyyzzzzz"])
        self.assertEqual(read_picture(picture(most)), most)
        for more in (cells(5, 10) + ((5, 0, 1, 4), (5, 4, 1, 3), (5, 7, 1, 3)), cells(10, 10)):
            with self.assertRaises(PatchError) as caught:
                picture(more)
            self.assertEqual((caught.exception.what, caught.exception.place), ("too many patches", -1))
            self.assertIsInstance(caught.exception, SewnError)

    def test_painted_cell_by_cell_and_read_back(self):
        lot = random.Random(23)
        for _ in range(200):
            patches = banded_patches(lot, lot.randint(1, 10), lot.randint(1, 10))
            mixed = list(patches)
            lot.shuffle(mixed)
            text = picture(tuple(mixed))
            self.assertEqual(text, painted(mixed))
            self.assertEqual(read_picture(text), patches)


class ReadPictureTest(unittest.TestCase):
    def assert_fault(self, text, line, what):
        with self.assertRaises(TextError, msg=repr(text)) as caught:
            read_picture(text)
        self.assertEqual((caught.exception.line, caught.exception.what), (line, what), repr(text))
        self.assertIsInstance(caught.exception, SewnError)

    def test_some_pictures(self):
        self.assertEqual(read_picture("AAB\nCDB\nCEE\n"), PINWHEEL)
        self.assertEqual(read_picture("A\n"), ((0, 0, 1, 1),))
        self.assertEqual(read_picture("A"), ((0, 0, 1, 1),))

    def test_any_letters_in_the_order_in_which_they_occur_first(self):
        self.assertEqual(read_picture("zzB\nqaB\nqAA\n"), PINWHEEL)
        self.assertEqual(read_picture("BA\nBA"), ((0, 0, 2, 1), (0, 1, 2, 1)))
        self.assertEqual(read_picture("aA\n"), ((0, 0, 1, 1), (0, 1, 1, 1)))
        for sign in NAMES:
            self.assertEqual(read_picture(sign * 2 + "\n" + sign * 2), ((0, 0, 2, 2),))

    def test_patches_are_tuples(self):
        patches = read_picture("AB\nAC\n")
        self.assertEqual((type(patches), {type(patch) for patch in patches}), (tuple, {tuple}))
        self.assertEqual({type(number) for patch in patches for number in patch}, {int})
        self.assertIsNone(check_patches(list(patches)))

    def test_too_many_rows(self):
        self.assertEqual(read_picture("A\n" * 10), ((0, 0, 10, 1),))
        for text in ("A\n" * 11, "A\n" * 10 + "A", "A\n" * 10 + "\n", "A\n" * 10 + "1", "A\n" * 10 + "AA", "A\n" * 99):
            self.assert_fault(text, 11, "too many rows")

    def test_not_a_name(self):
        for line in ("", " ", "1", "A B", "AB ", " AB", "A-", "A/b", "@", "[", "`", "{", "~", "A1B", "AAAAAAAAAAAA_"):
            self.assert_fault(line + "\n", 1, "not a name")
            self.assert_fault("AB\n" + line + "\nAB\n", 2, "not a name")

    def test_just_the_letters_are_names(self):
        for sign in [chr(number) for number in range(32, 127) if chr(number) != "%"]:
            if sign in NAMES:
                self.assertEqual(read_picture(sign), ((0, 0, 1, 1),))
            else:
                self.assert_fault(sign, 1, "not a name")

    def test_an_empty_line(self):
        self.assert_fault("\n", 1, "not a name")
        self.assert_fault("\nA\n", 1, "not a name")
        self.assert_fault("A\n\nA\n", 2, "not a name")
        self.assert_fault("A\n\n", 2, "not a name")

    def test_too_many_columns(self):
        self.assertEqual(read_picture("A" * 10 + "\n"), ((0, 0, 1, 10),))
        self.assert_fault("A" * 11, 1, "too many columns")
        self.assert_fault("A\n" + "A" * 11, 2, "too many columns")
        self.assert_fault("A" * 10 + "\n" + "A" * 11, 2, "too many columns")
        self.assert_fault("A" * 99 + "\n\n", 1, "too many columns")

    def test_another_length(self):
        self.assert_fault("AA\nA\n", 2, "another length")
        self.assert_fault("AA\nBBB\n", 2, "another length")
        self.assert_fault("A\n" * 9 + "AA", 10, "another length")

    def test_no_line_at_all(self):
        self.assert_fault("", 1, "no rows")

    def test_the_first_of_a_line_and_the_first_line(self):
        self.assert_fault("A\n" + "A" * 11 + "1\n", 2, "not a name")
        self.assert_fault("A\nB1\n", 2, "not a name")
        self.assert_fault("AA\nA\n1\n", 2, "another length")
        self.assert_fault("AA\n1\nA\n", 2, "not a name")
        self.assert_fault("A\n1\n" + "A\n" * 20, 2, "not a name")

    def test_not_a_rectangle(self):
        self.assert_fault("ABA\n", 1, "not a rectangle")
        self.assert_fault("AA\nAB\n", 1, "not a rectangle")
        self.assert_fault("AA\nBA\n", 1, "not a rectangle")
        self.assert_fault("BA\nAA\n", 1, "not a rectangle")
        self.assert_fault("AB\nAA\n", 1, "not a rectangle")
        self.assert_fault("AB\nBA\n", 1, "not a rectangle")
        self.assert_fault("AAA\nABA\nAAA\n", 1, "not a rectangle")
        self.assert_fault("A\nB\nA\n", 1, "not a rectangle")

    def test_the_line_in_which_the_name_occurs_first(self):
        self.assert_fault("AA\nBC\nCB\n", 2, "not a rectangle")
        self.assert_fault("AAA\nBBB\nCDC\n", 3, "not a rectangle")
        self.assert_fault("AAAB\nAAAB\nAAAC\nCCCC\n", 3, "not a rectangle")

    def test_the_first_of_the_names_in_the_order_in_which_they_occur_first(self):
        self.assert_fault("AACC\nBBCC\nBAAA\nDDDD", 1, "not a rectangle")
        self.assert_fault("CD\nAB\nBA\nDD\n", 1, "not a rectangle")
        self.assert_fault("CCC\nZAZ\nXYX\n", 2, "not a rectangle")

    def test_faults_of_lines_come_before_names_that_are_no_rectangle(self):
        self.assert_fault("ABA\nABAB\n", 2, "another length")
        self.assert_fault("ABA\n1\n", 2, "not a name")
        self.assert_fault("ABA\n" * 11, 11, "too many rows")


if __name__ == "__main__":
    unittest.main()
