"""Points 3 and 5: schemes, columns, spots and pictures."""

import itertools
import unittest

from galloon.errors import (
    BadColour,
    BadColumn,
    BadIndex,
    BadPicture,
    BadRow,
    BadScheme,
    BadSpots,
    BadStrip,
)
from galloon.schemes import Scheme
from tests.helpers import FAR, ONE, OTHER_KINDS, SCHEMES, Checked, words

TWO = Scheme(2, 2)
NO_COLUMNS = ["", "aa", "ab", "e", "A", "0", " ", ".", "-", "j"]


class MakingTest(Checked):
    def test_the_five_schemes(self):
        columns = {(1, 2): "ab", (1, 3): "abc", (2, 2): "abcd", (2, 3): "abcdefghi", (3, 2): "abcdefgh"}
        for (rows, colours), text in columns.items():
            scheme = Scheme(rows, colours)
            self.assertEqual((scheme.rows, scheme.colours, scheme.columns), (rows, colours, text))
            self.assertEqual(len(scheme), len(text))

    def test_the_first_wrong_part(self):
        for rows in [0, 4, -1, FAR, -FAR]:
            for colours in [2, 3, 1, 4, 0, -2, FAR]:
                self.fails(BadScheme, {"part": "rows"}, Scheme, rows, colours)
        for rows in [1, 2, 3]:
            for colours in [0, 1, 4, -2, -3, FAR, -FAR]:
                self.fails(BadScheme, {"part": "colours"}, Scheme, rows, colours)
        self.fails(BadScheme, {"part": "size"}, Scheme, 3, 3)

    def test_arguments_by_keyword(self):
        self.assertEqual(Scheme(colours=3, rows=1), Scheme(1, 3))

    def test_class_values(self):
        self.assertEqual((Scheme.MOST, Scheme.BLANK), (9, "a"))
        self.assertEqual(max(len(scheme) for scheme in SCHEMES), Scheme.MOST)

    def test_equal_schemes(self):
        for one, other in itertools.product(SCHEMES, repeat=2):
            same = (one.rows, one.colours) == (other.rows, other.colours)
            self.assertIs(one == Scheme(other.rows, other.colours), same)
            self.assertIs(one != Scheme(other.rows, other.colours), not same)

    def test_not_equal_to_other_kinds(self):
        for scheme in SCHEMES:
            for other in OTHER_KINDS + [scheme.columns, (scheme.rows, scheme.colours)]:
                self.assertIs(scheme == other, False)
                self.assertIs(scheme != other, True)


class ColumnsTest(Checked):
    def test_the_example_of_the_document(self):
        self.assertEqual([TWO.spots(column) for column in "abcd"], ["00", "01", "10", "11"])

    def test_spots_are_numbers_in_base_colours(self):
        for scheme in SCHEMES:
            for number, column in enumerate(scheme.columns):
                spots = scheme.spots(column)
                self.assertEqual((len(spots), int(spots, scheme.colours)), (scheme.rows, number))

    def test_column_takes_spots_back(self):
        for scheme in SCHEMES:
            digits = "012"[:scheme.colours]
            found = ["".join(spots) for spots in itertools.product(digits, repeat=scheme.rows)]
            self.assertEqual([scheme.column(spots) for spots in found], list(scheme.columns))
            self.assertEqual([scheme.spots(column) for column in scheme.columns], found)

    def test_the_blank_has_only_the_colour_0(self):
        for scheme in SCHEMES:
            self.assertEqual(scheme.spots(Scheme.BLANK), "0" * scheme.rows)

    def test_bad_columns(self):
        for text in NO_COLUMNS:
            self.fails(BadColumn, {"text": text}, TWO.spots, text)
        for scheme in SCHEMES:
            self.fails(BadColumn, {"text": scheme.columns}, scheme.spots, scheme.columns)
        self.fails(BadColumn, {"text": "c"}, ONE.spots, "c")
        self.fails(BadColumn, {"text": "i"}, Scheme(3, 2).spots, "i")

    def test_bad_spots(self):
        for text in ["", "0", "000", "02", "20", "0a", "-1", " 0", "0.", "\u0660\u0660"]:
            self.fails(BadSpots, {"text": text}, TWO.column, text)
        for text in ["3", "", "00", "01", "012"]:
            self.fails(BadSpots, {"text": text}, Scheme(1, 3).column, text)


class StripsTest(Checked):
    def test_is_strip_and_check(self):
        for scheme in SCHEMES:
            for strip in words(scheme, 2) + [scheme.columns * 4]:
                self.assertIs(scheme.is_strip(strip), True)
                self.assertIsNone(scheme.check(strip))
            beyond = "abcdefghij"[len(scheme)]
            for strip in [beyond, "a" + beyond, "A", "a b", "a.", "0", "a" * 39 + beyond, "\n"]:
                self.assertIs(scheme.is_strip(strip), False)
                self.fails(BadStrip, {"text": strip}, scheme.check, strip)


class PicturesTest(Checked):
    def test_the_example_of_the_interface(self):
        self.assertEqual(Scheme(2, 2).picture("abd"), ["001", "011"])

    def test_picture_and_of_picture(self):
        for scheme in SCHEMES:
            for strip in words(scheme, 2) + [scheme.columns * 4]:
                lines = scheme.picture(strip)
                self.assertEqual(len(lines), scheme.rows)
                for at, column in enumerate(strip):
                    self.assertEqual("".join(line[at] for line in lines), scheme.spots(column))
                self.assertEqual([len(line) for line in lines], [len(strip)] * scheme.rows)
                self.assertEqual(scheme.of_picture(lines), strip)

    def test_the_empty_strip(self):
        for scheme in SCHEMES:
            self.assertEqual(scheme.picture(""), [""] * scheme.rows)
            self.assertEqual(scheme.of_picture([""] * scheme.rows), "")

    def test_picture_takes_strips_only(self):
        for text in ["e", "abx", "0", "A"]:
            self.fails(BadStrip, {"text": text}, TWO.picture, text)

    def test_the_first_bad_line(self):
        cases = [
            (["02", "00"], 1),
            (["a"], 1),
            (["", "0"], 2),
            (["00", "0"], 2),
            (["00", "000"], 2),
            (["00", "02"], 2),
            (["00", "2"], 2),
            (["0 ", "00"], 1),
            (["00", "00", "00"], 3),
            (["00", "00", "9", "9"], 3),
            (["00", "09", "00"], 2),
            (["00", "0", "00"], 2),
            (["", "", ""], 3),
            (["09", "0", "00"], 1),
        ]
        for lines, line in cases:
            self.fails(BadPicture, {"line": line}, TWO.of_picture, lines)

    def test_too_few_lines(self):
        self.fails(BadPicture, {"line": 1}, TWO.of_picture, [])
        self.fails(BadPicture, {"line": 2}, TWO.of_picture, ["01"])
        self.fails(BadPicture, {"line": 2}, TWO.of_picture, [""])
        self.fails(BadPicture, {"line": 1}, Scheme(3, 2).of_picture, [])
        self.fails(BadPicture, {"line": 3}, Scheme(3, 2).of_picture, ["01", "11"])
        self.fails(BadPicture, {"line": 2}, Scheme(3, 2).of_picture, ["01", "1"])
        self.fails(BadPicture, {"line": 1}, Scheme(3, 2).of_picture, ["02"])

    def test_lists_are_not_changed_and_new_each_time(self):
        lines = ["001", "011"]
        self.assertEqual(TWO.of_picture(lines), "abd")
        self.assertEqual(lines, ["001", "011"])
        for _ in range(2):
            found = TWO.picture("abd")
            self.assertEqual(found, lines)
            found.clear()


class SpotsTest(Checked):
    def test_colour_at(self):
        for scheme in SCHEMES:
            for strip in words(scheme, 2):
                lines = scheme.picture(strip)
                for row, at in itertools.product(range(scheme.rows), range(len(strip))):
                    self.assertEqual(scheme.colour_at(strip, row, at), lines[row][at])

    def test_recoloured(self):
        for scheme in SCHEMES:
            for strip in words(scheme, 2):
                for row, at in itertools.product(range(scheme.rows), range(len(strip))):
                    for colour in "012"[:scheme.colours]:
                        lines = scheme.picture(strip)
                        lines[row] = lines[row][:at] + colour + lines[row][at + 1:]
                        found = scheme.recoloured(strip, row, at, colour)
                        self.assertEqual(found, scheme.of_picture(lines))

    def test_errors_in_their_order(self):
        for call, more in [(TWO.colour_at, []), (TWO.recoloured, ["1"]), (TWO.recoloured, ["7"])]:
            self.fails(BadStrip, {"text": "ax"}, call, "ax", 9, 9, *more)
            for row in [2, -1, FAR, -FAR]:
                self.fails(BadRow, {"row": row}, call, "ab", row, 9, *more)
                self.fails(BadRow, {"row": row}, call, "ab", row, 0, *more)
            for at in [2, -1, FAR, -FAR]:
                self.fails(BadIndex, {"at": at}, call, "ab", 1, at, *more)
            self.fails(BadIndex, {"at": 0}, call, "", 0, 0, *more)
        for colour in ["2", "", "01", "a", ".", "-1", "\u00b2"]:
            self.fails(BadColour, {"colour": colour}, TWO.recoloured, "ab", 1, 1, colour)
        self.fails(BadColour, {"colour": "3"}, Scheme(2, 3).recoloured, "ab", 1, 1, "3")


if __name__ == "__main__":
    unittest.main()
