"""Point 87: printed lines."""

import unittest

from galloon.bales import Bale
from galloon.cases import Case
from galloon.errors import BadSigns, BadStrip
from galloon.halls import Hall, Hidden
from galloon.lines import case_lines, drawn, hall_lines
from galloon.masks import Mask
from galloon.paints import Paint
from galloon.passes import FreePass, Turn, mask_menu
from galloon.schemes import Scheme
from galloon.shapes import Cut, Mirror
from galloon.workshops import Workshop
from tests.helpers import ONE, SCHEMES, Checked, words

THREE = Scheme(1, 3)


class DrawnTest(Checked):
    def test_all_schemes(self):
        for scheme in SCHEMES:
            for strip in words(scheme, 2) + [scheme.columns * 3]:
                lines = scheme.picture(strip)
                self.assertEqual(drawn(scheme, strip), [line.replace("0", ".").replace("1", "o").replace("2", "#") for line in lines])
                self.assertEqual(drawn(scheme, strip, signs="012"), lines)

    def test_known(self):
        self.assertEqual(drawn(Scheme(2, 2), "abd"), ["..o", ".oo"])
        self.assertEqual(drawn(THREE, "abccba"), [".o##o."])
        self.assertEqual(drawn(Scheme(3, 2), ""), ["", "", ""])
        self.assertEqual(drawn(THREE, "abc", signs="xyzabc"), ["xyz"])
        self.assertEqual(drawn(ONE, "ab", signs="10"), ["10"])
        self.assertEqual(drawn(ONE, "ab", signs="  "), ["  "])
        self.assertEqual(drawn(ONE, "abba", signs="#.o"), ["#..#"])

    def test_errors_in_their_order(self):
        for scheme, signs in ((ONE, ""), (ONE, "."), (THREE, ".o"), (THREE, ""), (Scheme(2, 3), "ab")):
            self.fails(BadSigns, {}, drawn, scheme, "ab", signs=signs)
            self.fails(BadSigns, {}, drawn, scheme, "", signs=signs)
            self.fails(BadStrip, {"text": "a?"}, drawn, scheme, "a?", signs=signs)
        self.fails(BadStrip, {"text": "abc"}, drawn, ONE, "abc")


class HallLinesTest(Checked):
    def test_lines(self):
        self.assertEqual(hall_lines(Hall(ONE)), [])
        paint = Paint(ONE, ["10"])
        hall = Hall(
            ONE, Z=Hidden(mask_menu(paint, Mask.menu(2, 2)[:12])), A=Mirror(ONE), W=Workshop.of(ONE, Cut(ONE, 1, 0)), F=FreePass(paint),
            B=Hidden([Turn(ONE, 1)]), C=Cut(ONE, 0, 1),
        )
        self.assertEqual(hall_lines(hall), [
            "A mirror     1", "B hidden     1", "C cut        1", "F free       1", "W workshop   1",
            f"Z hidden   {len(hall['Z']):>3}",
        ])
        self.assertEqual(len(hall["Z"]), 12)
        self.assertEqual(hall_lines(hall)[-1], "Z hidden    12")

    def test_kinds_that_are_too_wide_are_not_cut(self):
        class Wide(Mirror):
            KIND = "more than eight"
        self.assertEqual(hall_lines(Hall(ONE, A=Wide(ONE))), ["A more than eight   1"])


class CaseLinesTest(Checked):
    def test_lines(self):
        case = Case(Hall(ONE, H=Hidden([Turn(ONE, 1), Turn(ONE, -1)]), C=Cut(ONE, 1, 1)))
        self.assertEqual(case_lines(case), [])
        case.lay("eightlet", Bale.listed(ONE, ["aab"]))
        case.lay("b", Bale.shaped(ONE, "bb*a"))
        case.lay("a", Bale.listed(ONE, ["ab"]))
        self.assertEqual(case_lines(case), ["a          0 sure ab", "b          0 open ba", "eightlet   0 sure aab"])
        case.work("eightlet", "HH")
        case.work("a", "C")
        case.work("b", "C")
        self.assertEqual(case_lines(case), ["a          1 sure -", "b          1 open -", "eightlet   2 open aba"])
        case.see("b", Bale.shaped(ONE, "...*"))
        case.among("H", [0])
        self.assertEqual(case_lines(case), ["a          1 sure -", "b          1 open bb", "eightlet   2 sure baa"])
        case.work("eightlet", "HHHHHH")
        self.assertEqual(case_lines(case)[2], "eightlet   8 sure baa")
        case.lay("long", Bale.listed(ONE, ["ab" * 20]))
        self.assertEqual(case_lines(case)[3], "long       0 sure " + "ab" * 20)


if __name__ == "__main__":
    unittest.main()
