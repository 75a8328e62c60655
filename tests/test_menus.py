"""Point 37: menus of masks, the masks that fit, and the strips that tell masks apart."""

import random

from galloon.errors import BadCount, BadStrip
from galloon.masks import Mask
from galloon.paints import Paint
from galloon.passes import Pass, mask_known, mask_menu, mask_parting, masks_fitting
from galloon.schemes import Scheme
from tests.helpers import ONE, SCHEMES, Checked, words
from tests.test_masks import random_mask
from tests.test_passes import random_paint, random_strip

TWO = Scheme(2, 2)
SWAP = Paint(ONE, ["10"])


class MenuTest(Checked):
    def test_the_passes_in_order(self):
        masks = Mask.menu(1, 2)
        menu = mask_menu(SWAP, masks)
        self.assertEqual([str(deed) for deed in menu], [f"pass 10 {mask}" for mask in masks])
        self.assertTrue(all(deed.__class__ is Pass and deed.paint == SWAP for deed in menu))
        self.assertEqual(mask_menu(SWAP, []), [])
        self.assertEqual([str(deed.mask) for deed in mask_menu(SWAP, [Mask.none(), Mask.every(), Mask.none()])],
                         ["(-)", "(+)", "(-)"])


class FittingTest(Checked):
    def test_plain_trying(self):
        rng = random.Random(710)
        seen = set()
        for _ in range(200):
            scheme = rng.choice(SCHEMES)
            paint = random_paint(rng, scheme)
            masks = [random_mask(rng, 3) for _ in range(rng.randrange(7))]
            true = rng.choice(masks + [Mask.every()])
            pairs = []
            for _ in range(rng.randrange(4)):
                strip = random_strip(rng, scheme, 0, 6)
                pairs.append((strip, Pass(paint, true).outs(strip)[0] if rng.random() < 0.9 else strip[1:]))
            known = []
            for index, mask in enumerate(masks):
                marks = mask.marks(10)
                if all("".join(paint(c) if m == "+" else c for c, m in zip(x, marks)) == y for x, y in pairs):
                    known.append(index)
            found = masks_fitting(paint, masks, pairs)
            self.assertEqual(found, known)
            seen.add("all" if len(found) == len(masks) else "some" if found else "none")
            for length in (0, 1, 7, 140):
                lines = [masks[index].marks(length) for index in known]
                line = "".join(column[0] if len(set(column)) == 1 else "?" for column in zip(*lines))
                self.assertEqual(mask_known(paint, masks, pairs, length), line if known else None)
        self.assertEqual(seen, {"all", "some", "none"})

    def test_all_none_and_some(self):
        masks = [Mask.every(), Mask.none(), Mask.read("(+-)"), Mask.every()]
        self.assertEqual(masks_fitting(SWAP, masks, []), [0, 1, 2, 3])
        self.assertEqual(masks_fitting(SWAP, masks, [("", "")]), [0, 1, 2, 3])
        self.assertEqual(masks_fitting(SWAP, masks, [("a", "b")]), [0, 2, 3])
        self.assertEqual(masks_fitting(SWAP, masks, [("a", "b"), ("bb", "ab")]), [2])
        self.assertEqual(masks_fitting(SWAP, masks, [("a", "b"), ("a", "a")]), [])
        self.assertEqual(masks_fitting(SWAP, masks, [("a", "bb")]), [])
        self.assertEqual(masks_fitting(SWAP, [], [("a", "b")]), [])

    def test_known_marks(self):
        masks = [Mask.read("(+-)"), Mask.read("(+--)")]
        self.assertEqual(mask_known(SWAP, masks, [], 6), "+-???-")
        self.assertEqual(mask_known(SWAP, masks, [("aaa", "bab")], 6), "+-+-+-")
        self.assertEqual(mask_known(SWAP, masks, [], 0), "")
        self.assertIsNone(mask_known(SWAP, masks, [("a", "a")], 4))
        self.assertIsNone(mask_known(SWAP, [], [], 0))
        self.assertEqual(mask_known(Paint.still(ONE), masks, [("aaa", "aaa")], 3), "+-?")

    def test_errors_in_their_order(self):
        for masks in ([], Mask.menu(0, 1)):
            for pairs, text in (
                ([("a", "c")], "c"), ([("c", "d")], "c"), ([("a", "b"), ("b", "B")], "B"), ([("", "a"), ("0", "")], "0"),
                ([("a", "a"), ("a", "b"), ("x", "y")], "x"),
            ):
                self.fails(BadStrip, {"text": text}, masks_fitting, SWAP, masks, pairs)
                for length in (3, -1):
                    self.fails(BadStrip, {"text": text}, mask_known, SWAP, masks, pairs, length)
            for length in (-1, -(10 ** 30)):
                self.fails(BadCount, {"count": length}, mask_known, SWAP, masks, [], length)
                self.fails(BadCount, {"count": length}, mask_known, SWAP, masks, [("a", "a"), ("a", "b")], length)

    def test_nothing_is_changed(self):
        masks, pairs = Mask.menu(0, 2), [("ab", "bb")]
        mask_menu(SWAP, masks).clear()
        masks_fitting(SWAP, masks, pairs).append(9)
        self.assertEqual(([str(mask) for mask in masks], pairs), ([str(mask) for mask in Mask.menu(0, 2)], [("ab", "bb")]))
        self.assertEqual(masks_fitting(SWAP, masks, pairs), [2])


class PartingTest(Checked):
    def test_plain_trying(self):
        rng = random.Random(711)
        answers = {True: 0, False: 0}
        for _ in range(150):
            scheme = rng.choice(SCHEMES)
            paint, first, second = random_paint(rng, scheme), random_mask(rng, 2), random_mask(rng, 2)
            found = mask_parting(paint, first, second)
            one, other = Pass(paint, first), Pass(paint, second)
            most = {2: 5, 3: 3, 4: 3, 8: 2, 9: 2}[len(scheme)]
            known = [strip for strip in words(scheme, most) if one.outs(strip) != other.outs(strip)]
            if known:
                self.assertEqual(found, known[0])
            elif found is not None:
                self.assertGreater(len(found), most)
                self.assertNotEqual(one.outs(found), other.outs(found))
                self.assertEqual(one.outs(found[:-1]), other.outs(found[:-1]))
            answers[found is None] += 1
        self.assertGreater(min(answers.values()), 20)

    def test_far_behind(self):
        # These two differ only where both loops begin anew at once, less one.
        first = Mask("", "+----") & Mask("", "+-----")
        second = Mask.read("+(-)")
        self.assertEqual(mask_parting(SWAP, first, second), "a" * 31)
        self.assertEqual(mask_parting(Paint(ONE, ["00"]), first, second), "a" * 30 + "b")
        self.assertEqual(mask_parting(Paint(TWO, ["01", "00"]), first, second), "a" * 30 + "b")

    def test_what_the_paint_hides(self):
        self.assertIsNone(mask_parting(Paint.still(ONE), Mask.every(), Mask.none()))
        self.assertIsNone(mask_parting(Paint(TWO, ["01", "01"]), Mask.every(), Mask.none()))
        self.assertIsNone(mask_parting(SWAP, Mask.read("(+-)"), Mask.read("+-(+-+-)")))
        self.assertEqual(mask_parting(SWAP, Mask.every(), Mask.none()), "a")
