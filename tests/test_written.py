"""Point 85: the written forms of deeds."""

import random
import unittest

from galloon.masks import Mask
from galloon.mends import Once, Rest, Sweep
from galloon.paints import Paint
from galloon.passes import Border, FreePass, Gate, Pass, Stamp, Turn
from galloon.rules import Rule
from galloon.schemes import Scheme
from tests.helpers import ONE, SCHEMES
from tests.test_masks import random_mask
from tests.test_passes import random_paint
from tests.test_rules import drifting_rule, random_rule

TWO = Scheme(2, 2)
THREE = Scheme(1, 3)


class WrittenTest(unittest.TestCase):
    def test_passes(self):
        paint = Paint(TWO, ["10", "01"])
        for deed, text in (
            (Pass(paint, Mask.every()), "pass 10/01 (+)"),
            (Pass(paint, Mask("+-", "--++")), "pass 10/01 +-(--++)"),
            (Pass(Paint(THREE, ["120"]), Mask.none()), "pass 120 (-)"),
            (FreePass(paint), "free 10/01 0"),
            (FreePass(Paint(ONE, ["00"]), gap=3), "free 00 3"),
        ):
            self.assertEqual(str(deed), text)

    def test_masks_in_least_form_however_long(self):
        paint = Paint(ONE, ["10"])
        self.assertEqual(str(Pass(paint, Mask("+-+", "-+-+"))), "pass 10 (+-)")
        long = Mask("", "+----") | Mask("", "+-----")
        self.assertEqual(str(Pass(paint, long)), f"pass 10 {long}")
        self.assertEqual(len(str(Pass(paint, long))), len("pass 10 ()") + 30)

    def test_stamps_borders_gates_and_turns(self):
        for deed, text in (
            (Stamp(TWO, "ad", "bc"), "stamp ad bc"), (Stamp(TWO, "a", "a"), "stamp a a"),
            (Border(TWO, "ad", "bcd"), "border ad bcd"), (Border(TWO, "", "bcd"), "border - bcd"),
            (Border(TWO, "ad", ""), "border ad -"), (Border(TWO, "", ""), "border - -"),
            (Gate(TWO, "(a|01*)?[ad]"), "gate (a|01*)?[ad]"), (Gate(TWO, ""), "gate -"), (Gate(ONE, "|"), "gate |"),
            (Turn(ONE, -1), "turn -1"), (Turn(ONE, 0), "turn 0"), (Turn(ONE, 1), "turn 1"),
        ):
            self.assertEqual(str(deed), text)

    def test_mends(self):
        rule = Rule.read(TWO, "1:#0,.0,1>1;1,00,#>1")
        for deed, text in (
            (Once(rule), "once 1:#0,.0,1>1;1,00,#>1"),
            (Sweep(rule), "sweep right 1:#0,.0,1>1;1,00,#>1"),
            (Sweep(rule, back=True), "sweep left 1:#0,.0,1>1;1,00,#>1"),
            (Rest(rule), "rest 1:#0,.0,1>1;1,00,#>1"),
            (Once(Rule.read(ONE, "0:")), "once 0:"),
            (Rest(Rule.read(THREE, "0:")), "rest 0:"),
        ):
            self.assertEqual(str(deed), text)

    def test_kinds_and_parts(self):
        rng = random.Random(770)
        for _ in range(40):
            scheme = rng.choice(SCHEMES)
            paint, mask = random_paint(rng, scheme), random_mask(rng)
            rule, drifting = random_rule(rng, scheme), drifting_rule(rng, scheme, rng.random() < 0.5)
            for deed, words in (
                (Pass(paint, mask), [str(paint), str(mask)]), (FreePass(paint, gap=2), [str(paint), "2"]),
                (Once(rule), [str(rule)]), (Rest(drifting), [str(drifting)]), (Sweep(rule), ["right", str(rule)]),
            ):
                self.assertEqual(str(deed).split(" "), [deed.KIND] + words)
