"""Points 28 and 29: paints."""

import itertools

from galloon.errors import BadPaint, BadStrip, UnlikeSchemes
from galloon.paints import Paint
from galloon.schemes import Scheme
from tests.helpers import ONE, OTHER_KINDS, SCHEMES, Checked, words

TWO = Scheme(2, 2)
THREE = Scheme(1, 3)


def all_paints(scheme):
    """All paints of a scheme."""
    maps = ["".join(part) for part in itertools.product("012"[:scheme.colours], repeat=scheme.colours)]
    return [Paint(scheme, list(part)) for part in itertools.product(maps, repeat=scheme.rows)]


def plain_painted(paint, strip):
    """The strip with all spots painted, from its picture."""
    lines = paint.scheme.picture(strip)
    return paint.scheme.of_picture(
        ["".join(told[int(colour)] for colour in line) for told, line in zip(paint.maps, lines)]
    )


class PaintTest(Checked):
    def test_all_paints_of_all_schemes(self):
        for scheme in SCHEMES:
            for paint in all_paints(scheme):
                strip = scheme.columns + scheme.columns[::-1]
                self.assertEqual(paint(strip), plain_painted(paint, strip))
                self.assertEqual(paint(""), "")

    def test_known_paints(self):
        self.assertEqual(Paint(ONE, ["10"])("aabab"), "bbaba")
        self.assertEqual(Paint(TWO, ["10", "01"])("abcd"), "cdab")
        self.assertEqual(Paint(TWO, ["01", "00"])("abcd"), "aacc")
        self.assertEqual(Paint(THREE, ["120"])("abcabc"), "bcabca")

    def test_maps(self):
        maps = ["10", "00"]
        paint = Paint(TWO, maps)
        maps[0] = "11"
        maps.append("01")
        self.assertEqual(paint.maps, ["10", "00"])
        self.assertIs(paint.maps.__class__, list)
        self.assertEqual(maps, ["11", "00", "01"])
        self.assertEqual(paint("ad"), "ca")
        self.assertEqual(paint.scheme, TWO)
        self.assertEqual(Paint(TWO, ("01", "01")).maps, ["01", "01"])

    def test_still(self):
        for scheme in SCHEMES:
            for strip in words(scheme, 2):
                self.assertEqual(Paint.still(scheme)(strip), strip)
        self.assertEqual(Paint.still(THREE).maps, ["012"])
        self.assertEqual(Paint.still(TWO).maps, ["01", "01"])

    def test_bad_lists(self):
        for maps in ([], ["01"], ["01", "01", "01"], ["", "", ""], ["xx"]):
            self.fails(BadPaint, {"row": -1}, Paint, TWO, maps)
        self.fails(BadPaint, {"row": -1}, Paint, ONE, [])

    def test_the_first_bad_row(self):
        for told in ("", "0", "010", "02", "2", "ab", "0 ", "-1", "0\n", "1/"):
            self.fails(BadPaint, {"row": 0}, Paint, ONE, [told])
            self.fails(BadPaint, {"row": 0}, Paint, TWO, [told, "01"])
            self.fails(BadPaint, {"row": 1}, Paint, TWO, ["01", told])
            self.fails(BadPaint, {"row": 0}, Paint, TWO, [told, told])
            self.fails(BadPaint, {"row": 2}, Paint, Scheme(3, 2), ["00", "11", told])
        for told in ("01", "0123", "013", "01a"):
            self.fails(BadPaint, {"row": 0}, Paint, THREE, [told])

    def test_only_strips_are_painted(self):
        for text in ("c", "aB", "a ", "0"):
            self.fails(BadStrip, {"text": text}, Paint.still(ONE), text)

    def test_a_paint_has_one_scheme(self):
        self.assertEqual(Paint(Scheme(2, 3), ["012", "210"])("abi"), "cbg")


class ProductTest(Checked):
    def test_the_first_paint_comes_first(self):
        for scheme in (ONE, THREE, TWO):
            paints = all_paints(scheme)
            for first, second in itertools.product(paints[::3], paints[::2]):
                both = first * second
                self.assertEqual(both(scheme.columns), second(first(scheme.columns)))
                self.assertEqual(both.scheme, scheme)

    def test_the_order_counts(self):
        first, second = Paint(THREE, ["120"]), Paint(THREE, ["002"])
        self.assertEqual((first * second).maps, ["020"])
        self.assertEqual((second * first).maps, ["110"])

    def test_nothing_changes(self):
        first, second = Paint(TWO, ["10", "01"]), Paint(TWO, ["00", "11"])
        first * second, first.undoing(), second.undoing()
        self.assertEqual([first.maps, second.maps], [["10", "01"], ["00", "11"]])

    def test_unlike_schemes(self):
        for one, other in itertools.permutations(SCHEMES, 2):
            self.fails(UnlikeSchemes, {}, lambda: Paint.still(one) * Paint.still(other))


class UndoingTest(Checked):
    def test_on_either_side(self):
        for scheme in SCHEMES:
            still = Paint.still(scheme)
            for paint in all_paints(scheme):
                back = paint.undoing()
                lossy = any(len(set(told)) < len(told) for told in paint.maps)
                self.assertEqual(back is None, lossy)
                if back is not None:
                    self.assertTrue(paint * back == still and back * paint == still)
                    self.assertEqual(back(paint(scheme.columns)), scheme.columns)

    def test_known_answers(self):
        self.assertEqual(Paint(THREE, ["120"]).undoing().maps, ["201"])
        self.assertIsNone(Paint(TWO, ["10", "00"]).undoing())
        self.assertIsNone(Paint(TWO, ["11", "10"]).undoing())


class WrittenFormTest(Checked):
    def test_str_and_read(self):
        self.assertEqual(str(Paint(TWO, ["10", "01"])), "10/01")
        self.assertEqual(str(Paint(THREE, ["120"])), "120")
        for scheme in SCHEMES:
            for paint in all_paints(scheme):
                self.assertEqual(str(paint), "/".join(paint.maps))
                self.assertTrue(Paint.read(scheme, str(paint)) == paint)

    def test_read_raises_the_errors_of_the_class(self):
        for text in ("", "01", "01/01/01", "/01/01", "01/01/", "//"):
            self.fails(BadPaint, {"row": -1}, Paint.read, TWO, text)
        for text in ("/", "0/01", "/01", "02/01", "01 /01", "01-/2"):
            self.fails(BadPaint, {"row": 0}, Paint.read, TWO, text)
        for text in ("01/", "10/2", "10/ 01", "11/011"):
            self.fails(BadPaint, {"row": 1}, Paint.read, TWO, text)
        self.fails(BadPaint, {"row": 0}, Paint.read, ONE, "")
        self.fails(BadPaint, {"row": -1}, Paint.read, ONE, "/")

    def test_equal(self):
        for scheme in (ONE, THREE, TWO):
            paints = all_paints(scheme)
            for at, paint in enumerate(paints):
                self.assertEqual([paint == other for other in paints], [at == place for place in range(len(paints))])
        self.assertIs(Paint.still(ONE) == Paint.still(THREE), False)
        self.assertIs(Paint.still(ONE) == Paint.still(Scheme(1, 2)), True)
        for other in OTHER_KINDS + [["01"], "01"]:
            self.assertIs(Paint.still(ONE) == other, False)
            self.assertIs(Paint.still(ONE) != other, True)
