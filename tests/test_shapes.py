"""Point 65: mirrors and cuts; with point 85, their written forms."""

import unittest

from galloon.deeds import Deed
from galloon.errors import BadCount
from galloon.looms import Loom
from galloon.schemes import Scheme
from galloon.shapes import Cut, Mirror
from tests.deed_checks import check_deed
from tests.helpers import FAR, ONE, SCHEMES, Checked

TWO = Scheme(2, 2)


class MirrorTest(Checked):
    def test_plain_trying(self):
        for scheme in SCHEMES:
            check_deed(self, Mirror(scheme), lambda strip: [strip[::-1]], frame=(0, True))

    def test_parts(self):
        deed = Mirror(TWO)
        self.assertEqual((deed.scheme, deed.KIND, deed.short, deed.flips, str(deed)), (TWO, "mirror", 0, True, "mirror"))
        self.assertEqual(deed.loom(), Loom.identity(TWO))
        self.assertEqual((deed.outs("abd"), deed.played("abd"), deed.outs("")), (["dba"], ["dba"], [""]))
        self.assertIs(deed.makes("ab", "ba"), True)
        self.assertIs(deed.makes("ab", "ab"), False)


class CutTest(Checked):
    def test_plain_trying(self):
        for scheme in SCHEMES:
            for front, back in ((0, 0), (1, 0), (0, 1), (1, 1), (2, 1), (0, 4), (3, 0)):
                if len(scheme) < 8 or front < 3:
                    def plain(strip):
                        return [strip[front:len(strip) - back]] if len(strip) >= front + back else []
                    check_deed(self, Cut(scheme, front, back), plain, frame=(front + back, False))

    def test_the_widest_cut(self):
        deed = Cut(ONE, 4, 4)
        for strip, outs in (
            ("abbbaaab", [""]), ("abbbaab", []), ("abba" + "b" + "aaaa", ["b"]), ("", []),
            ("aaaa" + "ab" * 16 + "bbbb", ["ab" * 16]),
        ):
            self.assertEqual((deed.outs(strip), deed.played(strip)), (outs, outs))
        self.assertEqual(deed.loom().outs("abba" + "bb" + "abab"), ["bb" + "a" * 8])
        self.assertEqual(Cut(Scheme(2, 3), 4, 4).outs("abcd" + "fgh" + "hgfe"), ["fgh"])

    def test_the_cut_of_nothing(self):
        deed = Cut(TWO, 0, 0)
        self.assertEqual(deed.loom(), Loom.identity(TWO))
        self.assertEqual((deed.outs(""), deed.outs("dab"), str(deed)), ([""], ["dab"], "cut 0 0"))

    def test_parts(self):
        deed = Cut(TWO, 1, 3)
        self.assertEqual((deed.front, deed.back, deed.short, deed.flips), (1, 3, 4, False))
        self.assertEqual((deed.scheme, deed.KIND, str(deed)), (TWO, "cut", "cut 1 3"))
        self.assertIsInstance(deed, Deed)
        self.assertFalse(deed.loom().outs("abc"))
        self.assertEqual(deed.loom().outs("abcd"), ["aaaa"])
        self.assertEqual(deed.loom().outs("abcdd"), ["b" + "aaaa"])

    def test_errors_in_their_order(self):
        for front, back, wrong in ((-1, 0, -1), (5, 0, 5), (0, -1, -1), (0, 5, 5), (-1, 5, -1), (5, -1, 5), (FAR, 9, FAR)):
            self.fails(BadCount, {"count": wrong}, Cut, ONE, front, back)
        for front in range(5):
            for back in range(5):
                self.assertEqual(Cut(ONE, front, back).short, front + back)


if __name__ == "__main__":
    unittest.main()
