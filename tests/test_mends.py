"""Points 43 and 44: mending once, in a sweep, and until the strip rests."""

import random

from galloon.bales import Bale
from galloon.deeds import Deed
from galloon.errors import BadStrip, NoDrift, TooMany
from galloon.mends import Mend, Once, Rest, Sweep
from galloon.rules import Rule, at_rest
from galloon.schemes import Scheme
from tests.deed_checks import MOST, check_deed, told_by
from tests.helpers import ONE, SCHEMES, Checked, words
from tests.test_rules import drifting_rule, plain_mended, random_rule

TWO = Scheme(2, 2)
THREE = Scheme(1, 3)
# Rules that choose between several ways to rest.
CHOOSING = [
    (ONE, "0:#0,0,#0>1"), (ONE, "0:1,1,1>0"), (ONE, "0:#01,1,1>0"), (THREE, "0:#0,0,#0>2;#1,1,#1>2"),
    (THREE, "0:#02,0,#02>1;1,1,01>2"), (THREE, "0:12,2,12>1;1,1,1>0"), (THREE, "0:#012,0,0>1;1,1,1>2;0,0,#012>2"),
    (TWO, "0:#0,0.,#0>1"), (TWO, "1:01,01,#0>0;0,01,1>0"), (TWO, "0:#0,01,#01>1;#0,00,0>1"),
]


def plain_once(rule, strip):
    """Each new spot is found from the strip as it was before."""
    return "".join(plain_mended(rule, strip, place)[place] for place in range(len(strip)))


def plain_sweep(rule, strip, places):
    for place in places:
        strip = plain_mended(rule, strip, place)
    return strip


def reachable(rule, strip):
    """A dict of all strips that mendings which change something reach: the least number of them."""
    steps = {strip: 0}
    queue = [strip]
    for latest in queue:
        for place in range(len(latest)):
            following = plain_mended(rule, latest, place)
            if following not in steps:
                steps[following] = steps[latest] + 1
                queue.append(following)
    return steps


def plain_rests(rule, strip):
    """The resting strips that all orders of mending reach."""
    return [
        other for other in reachable(rule, strip)
        if all(plain_mended(rule, other, place) == other for place in range(len(other)))
    ]


class OnceTest(Checked):
    def test_plain_trying(self):
        rng = random.Random(730)
        for scheme in SCHEMES:
            for _ in range(10):
                rule = random_rule(rng, scheme)
                check_deed(self, Once(rule), lambda strip: [plain_once(rule, strip)])

    def test_attributes(self):
        rule = Rule.read(ONE, "0:#0,0,#0>1")
        deed = Once(rule)
        self.assertIs(deed.rule, rule)
        self.assertEqual((deed.scheme, deed.KIND), (ONE, "once"))
        self.assertTrue(isinstance(deed, Mend) and isinstance(deed, Deed))
        self.assertEqual((deed.outs(""), deed.outs("a"), deed.outs("aabaa")), ([""], ["b"], ["babab"]))


class SweepTest(Checked):
    def test_plain_trying(self):
        rng = random.Random(731)
        for scheme in SCHEMES:
            for _ in range(8):
                rule = random_rule(rng, scheme)
                for deed in (Sweep(rule), Sweep(rule, back=False)):
                    check_deed(self, deed, lambda strip: [plain_sweep(rule, strip, range(len(strip)))])
                check_deed(self, Sweep(rule, back=True), lambda strip: [
                    plain_sweep(rule, strip, range(len(strip) - 1, -1, -1))
                ])

    def test_long_strips(self):
        # A colour runs along the whole strip in one sweep, in one direction only.
        rule = Rule.read(ONE, "0:1,0,#01>1")
        strip = "a" * 10 + "b" + "a" * 29
        self.assertEqual(Sweep(rule).outs(strip), ["a" * 10 + "b" * 30])
        self.assertEqual(Sweep(rule, back=True).outs(strip), ["a" * 10 + "bb" + "a" * 28])
        self.assertEqual(Sweep(rule).played(strip), Sweep(rule).outs(strip))
        self.assertEqual(Sweep(rule, back=True).played(strip), Sweep(rule, back=True).outs(strip))

    def test_attributes(self):
        rule = Rule.read(TWO, "1:")
        for back in (False, True):
            deed = Sweep(rule, back=back)
            self.assertIs(deed.back, back)
            self.assertIs(deed.rule, rule)
            self.assertEqual((deed.scheme, deed.KIND), (TWO, "sweep"))
            self.assertIsInstance(deed, Mend)
        self.assertIs(Sweep(rule).back, False)
        with self.assertRaises(TypeError):
            Sweep(rule, True)


class RestTest(Checked):
    def test_choosing_rules(self):
        for scheme, text in CHOOSING:
            rule = Rule.read(scheme, text)
            most = 7 if scheme == ONE else MOST[len(scheme)] + (scheme == THREE)
            check_deed(self, Rest(rule), lambda strip: plain_rests(rule, strip), most)

    def test_plain_trying(self):
        rng = random.Random(732)
        for scheme, most in ((ONE, 5), (THREE, 4), (TWO, 3)):
            for turn in range(24):
                rule = drifting_rule(rng, scheme, turn % 2 == 0)
                check_deed(self, Rest(rule), lambda strip: plain_rests(rule, strip), most)

    def test_each_strip_rests_and_resting_strips_stay(self):
        for scheme, text in CHOOSING:
            rule = Rule.read(scheme, text)
            deed, rest = Rest(rule), at_rest(rule)
            self.assertTrue(deed.loom().domain() == Bale.every(scheme))
            self.assertTrue(deed.image(Bale.every(scheme)) == rest)
            for strip in words(scheme, 3):
                if strip in rest:
                    self.assertEqual(deed.outs(strip), [strip])

    def test_still_rules_change_nothing(self):
        for scheme in (ONE, TWO, THREE):
            deed = Rest(Rule.read(scheme, "0:"))
            self.assertTrue(deed.loom() == Once(deed.rule).loom())
            self.assertEqual((deed.outs("abab"), deed.played("abab")), (["abab"], ["abab"]))

    def test_long_strips_of_two_colours(self):
        deed = Rest(Rule.read(ONE, "0:#0,0,#0>1"))
        for strip in ("baaaab" * 6, "baaaab" * 6 + "aaaa", "aaaab" * 4 + "aab", "aab" * 2 + "b" * 34, "b" * 40):
            outs = deed.outs(strip)
            self.assertEqual(deed.played(strip), outs)
            self.assertGreater(len(outs), 0)
        self.assertEqual(len(deed.outs("baaaab" * 6)), 2 ** 6)
        self.assertEqual(len(deed.outs("baaaab" * 6 + "aaaa")), 2 ** 6 * 2)

    def test_many_strips_on_the_way_to_one(self):
        # All sets of places can have changed on the way, but only one strip rests.
        for text, out in (("0:#01,0,#01>1", "b" * 40), ("0:#,0,#01>1;1,0,#01>1", "b" * 40)):
            deed = Rest(Rule.read(ONE, text))
            self.assertEqual(deed.played("a" * 40), [out])
            self.assertEqual(deed.outs("a" * 40), [out])
        deed = Rest(Rule.read(TWO, "1:#01,10,#01>1;#01,00,1>1"))
        for strip in ("a" * 39 + "c", "cacab" * 8, "d" + "ac" * 19):
            self.assertEqual(deed.played(strip), deed.outs(strip))
            self.assertEqual(len(deed.outs(strip)), 1)

    def test_ten_columns_of_three_colours(self):
        for text in ("0:#0,0,#0>2;#1,1,#1>2", "0:#012,0,#012>1;#012,1,#012>2", "0:12,2,12>1;1,1,1>0"):
            deed = Rest(Rule.read(THREE, text))
            for strip in ("a" * 10, "abcabcabca", "cccccccccc", "abababab", "ccbbaacccc"):
                outs = told_by(deed, strip, deed.outs)
                self.assertEqual(told_by(deed, strip, deed.played), outs)

    def test_just_200_and_above(self):
        deed = Rest(Rule.read(ONE, "0:#0,0,#0>1"))
        # So many ways there are to rest between two b; those of several such pieces are multiplied.
        for many, ways in ((2, 1), (3, 1), (4, 2), (5, 2), (6, 3), (8, 5), (9, 7)):
            self.assertEqual(len(plain_rests(deed.rule, "b" + "a" * many + "b")), ways)
        for pieces, ways in (((8, 8, 4, 4, 4), 200), ((8, 8, 6, 6), 225), ((9, 9, 4, 4), 196), ((9, 9, 4, 6), 294)):
            strip = "b" + "".join("a" * many + "b" for many in pieces)
            self.assertEqual(deed.loom().count_outs(strip), ways)
            for call in (deed.outs, deed.played):
                if ways > 200:
                    self.fails(TooMany, {"most": 200}, call, strip)
                else:
                    self.assertEqual(len(set(call(strip))), ways)
            self.assertEqual(deed.played(strip) if ways <= 200 else None, deed.outs(strip) if ways <= 200 else None)
        self.assertIs(deed.makes("a" * 40, "ab" * 20), True)
        self.assertIs(deed.makes("a" * 40, "a" * 40), False)
        self.fails(TooMany, {"most": 200}, deed.outs, "a" * 40)
        self.fails(TooMany, {"most": 200}, deed.played, "a" * 40)
        self.fails(BadStrip, {"text": "a" * 40 + "c"}, deed.played, "a" * 40 + "c")

    def test_above_200_with_few_strips_on_the_way(self):
        # Two blanks between c can rest in 4 ways, and pass only 7 strips.
        deed = Rest(Rule.read(THREE, "0:#2,0,0>1;0,0,#2>1;#2,1,0>2;0,1,#2>2;1,0,#2>2;#2,0,1>2"))
        self.assertEqual(deed.played("aa"), ["ac", "bc", "ca", "cb"])
        self.assertEqual(len(reachable(deed.rule, "aa")), 7)
        for strip, many in (("aacaacaa", 64), ("aacaacaacaa", 256)):
            self.assertEqual(deed.loom().count_outs(strip), many)
            for call in (deed.outs, deed.played):
                if many > 200:
                    self.fails(TooMany, {"most": 200}, call, strip)
                else:
                    self.assertEqual(sorted(call(strip)), sorted(plain_rests(deed.rule, strip)))

    def test_no_drift(self):
        for scheme, text in ((ONE, "0:#,0,#>1;1,1,1>0"), (THREE, "0:#,.,#>1"), (TWO, "0:#01,.1,#01>1;#01,.0,#01>0")):
            self.fails(NoDrift, {}, Rest, Rule.read(scheme, text))

    def test_attributes(self):
        rule = Rule.read(ONE, "0:#0,0,#0>1")
        deed = Rest(rule)
        self.assertIs(deed.rule, rule)
        self.assertEqual((deed.scheme, deed.KIND), (ONE, "rest"))
        self.assertIsInstance(deed, Mend)
