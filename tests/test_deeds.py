"""Points 33 and 34: what follows for every deed from its loom, `short` and `flips`."""

import random

from galloon.bales import Bale
from galloon.deeds import Deed
from galloon.errors import BadStrip, TooMany, UnlikeSchemes
from galloon.looms import Loom
from galloon.schemes import Scheme
from tests.helpers import ONE, SCHEMES, Checked, check_least_bale, members, random_arcs, random_rows, relation, words

TWO = Scheme(2, 2)
MOST = {"ab": 5, "abc": 3, "abcd": 3, "abcdefghi": 2, "abcdefgh": 2}


class Probe(Deed):
    """A deed with any loom."""

    KIND = "probe"

    def __init__(self, loom, short=0, flips=False):
        Deed.__init__(self, loom.scheme)
        self.told = loom
        self.short = short
        self.flips = flips

    def loom(self):
        return self.told

    def __str__(self):
        return self.KIND


def probe(rng, scheme, short, flips):
    """A deed with a small loom whose last columns are always blank."""
    loom = Loom(scheme, *random_arcs(rng, scheme, rng.choice((1, 2, 3)), rng.choice((2, 3))))
    ends = Bale.every(scheme) + Bale.listed(scheme, [scheme.BLANK * short])
    return Probe(loom.into(ends), short, flips)


def finished(deed, text):
    """What becomes of a strip that the loom says."""
    kept = text[:-deed.short] if deed.short else text
    return kept[::-1] if deed.flips else kept


def made(deed, most):
    """For each short strip the set of the strips that a deed makes of it."""
    found = {word: set() for word in words(deed.scheme, most)}
    for before, after in relation(deed.loom(), most):
        found[before].add(finished(deed, after))
    return found


def probes(seed, many):
    """Deeds of all schemes that cut or do not and flip or do not."""
    rng = random.Random(seed)
    for scheme in SCHEMES:
        for at in range(many):
            yield rng, scheme, MOST[scheme.columns], probe(rng, scheme, at % 3, at % 2 == 1)


class BaseTest(Checked):
    def test_attributes(self):
        deed = Deed(TWO)
        self.assertEqual((deed.scheme, deed.short, deed.flips), (TWO, 0, False))
        self.assertIs(deed.flips, False)

    def test_only_subclasses_have_looms(self):
        for call in (Deed(ONE).loom, lambda: Deed(ONE).played("a"), lambda: Deed(ONE).outs("a")):
            with self.assertRaises(NotImplementedError):
                call()


class OutsTest(Checked):
    def test_plain_trying(self):
        many = 0
        for _, scheme, most, deed in probes(600, 24):
            for before, afters in made(deed, most).items():
                if len(afters) <= 200:
                    outs = deed.outs(before)
                    self.assertEqual(outs, sorted(afters))
                    self.assertIs(outs.__class__, list)
                    many += len(outs) > 1
        self.assertGreater(many, 50)

    def test_the_order_of_the_finished_strips_counts(self):
        loom = Loom.of_pairs(ONE, [("aaa", "aba"), ("aaa", "baa"), ("aaa", "bba")])
        self.assertEqual(Probe(loom).outs("aaa"), ["aba", "baa", "bba"])
        self.assertEqual(Probe(loom, 1).outs("aaa"), ["ab", "ba", "bb"])
        self.assertEqual(Probe(loom, 1, True).outs("aaa"), ["ab", "ba", "bb"])
        self.assertEqual(Probe(loom, 0, True).outs("aaa"), ["aab", "aba", "abb"])
        loom = Loom.of_pairs(TWO, [("aaa", "bca"), ("aaa", "cba"), ("aaa", "daa"), ("aaa", "aba")])
        self.assertEqual(Probe(loom, 1, True).outs("aaa"), ["ad", "ba", "bc", "cb"])

    def test_cut_down_to_nothing(self):
        loom = Loom.identity(ONE).on(Bale.listed(ONE, ["aa"]))
        for flips in (False, True):
            deed = Probe(loom, 2, flips)
            self.assertEqual([deed.outs(text) for text in ("aa", "a", "", "ab")], [[""], [], [], []])
            self.assertEqual([deed.makes("aa", text) for text in ("", "a", "aa")], [True, False, False])
            self.assertTrue(deed.image(Bale.every(ONE)) == Bale.listed(ONE, [""]))
            self.assertTrue(deed.source(Bale.every(ONE)) == Bale.listed(ONE, ["aa"]))

    def test_just_200_and_one_more(self):
        every = ["".join(part) for part in words(Scheme(1, 3), 5) if len(part) == 5]
        for flips in (False, True):
            for many in (199, 200, 201, 243):
                loom = Loom.of_pairs(Scheme(1, 3), [("aaaaaa", after + "a") for after in every[:many]])
                deed = Probe(loom, 1, flips)
                if many > 200:
                    self.fails(TooMany, {"most": 200}, deed.outs, "aaaaaa")
                else:
                    known = sorted(after[::-1] if flips else after for after in every[:many])
                    self.assertEqual(deed.outs("aaaaaa"), known)
                for at in (0, many - 1, min(many, 242)):
                    after = every[at][::-1] if flips else every[at]
                    self.assertIs(deed.makes("aaaaaa", after), at < many)

    def test_only_strips(self):
        deed = Probe(Loom.every(ONE))
        for text in ("c", "aB", "a ", "0"):
            self.fails(BadStrip, {"text": text}, deed.outs, text)
        self.fails(BadStrip, {"text": "a" * 20 + "c"}, deed.outs, "a" * 20 + "c")
        self.fails(TooMany, {"most": 200}, deed.outs, "a" * 40)


class MakesTest(Checked):
    def test_plain_trying(self):
        answers = {True: 0, False: 0}
        for rng, scheme, most, deed in probes(610, 16):
            told = made(deed, most)
            every = words(scheme, most)
            pairs = [(rng.choice(every), rng.choice(every)) for _ in range(60)]
            pairs += [(before, after) for before in told for after in told[before]][:60]
            for before, after in pairs:
                answer = deed.makes(before, after)
                self.assertIs(answer, after in told[before])
                answers[answer] += 1
        self.assertGreater(min(answers.values()), 200)

    def test_however_many_there_are(self):
        deed = Probe(Loom.every(TWO))
        self.assertIs(deed.makes("a" * 40, "d" * 40), True)
        self.assertIs(deed.makes("a" * 40, "d" * 39), False)
        self.assertIs(deed.makes("a" * 40, "d" * 41), False)

    def test_the_last_columns_must_be_blank(self):
        deed = Probe(Loom.every(ONE).into(Bale.shaped(ONE, ".*a")), 1)
        self.assertIs(deed.makes("bb", "b"), True)
        self.assertIs(deed.makes("bb", "bb"), False)
        self.assertEqual(deed.outs("bb"), ["a", "b"])
        self.assertEqual(deed.outs(""), [])

    def test_errors_in_their_order(self):
        deed = Probe(Loom.every(ONE), 0, True)
        self.fails(BadStrip, {"text": "c"}, deed.makes, "c", "d")
        self.fails(BadStrip, {"text": "d"}, deed.makes, "a", "d")
        self.fails(BadStrip, {"text": "ba0"}, deed.makes, "", "ba0")


class ImagesTest(Checked):
    def test_plain_trying(self):
        for rng, scheme, most, deed in probes(620, 16):
            told = made(deed, most)
            for bale in (Bale.every(scheme), Bale(scheme, *random_rows(rng, scheme, 3)), Bale.none(scheme)):
                image, source = deed.image(bale), deed.source(bale)
                check_least_bale(self, image)
                check_least_bale(self, source)
                known = {after for before in told if before in bale for after in told[before]}
                self.assertEqual(set(members(image, max(most - deed.short, 0))), known)
                known = {before for before in told if any(after in bale for after in told[before])}
                self.assertEqual(set(members(source, most)), known)

    def test_known_images(self):
        every = Loom.every(ONE).into(Bale.shaped(ONE, ".*aa"))
        deed = Probe(every, 2, True)
        self.assertTrue(deed.image(Bale.shaped(ONE, "bb.*")) == Bale.every(ONE))
        self.assertTrue(deed.image(Bale.shaped(ONE, "b")) == Bale.none(ONE))
        self.assertTrue(deed.source(Bale.shaped(ONE, "b*")) == Bale.shaped(ONE, "...*"))
        deed = Probe(Loom.identity(ONE), 0, True)
        self.assertTrue(deed.image(Bale.shaped(ONE, "ab*")) == Bale.shaped(ONE, "b*a"))
        self.assertTrue(deed.source(Bale.shaped(ONE, "ab*")) == Bale.shaped(ONE, "b*a"))

    def test_unlike_schemes_come_first(self):
        for deed in (Probe(Loom.every(ONE)), Deed(ONE)):
            self.fails(UnlikeSchemes, {}, deed.image, Bale.every(TWO))
            self.fails(UnlikeSchemes, {}, deed.source, Bale.none(TWO))

    def test_nothing_is_changed(self):
        deed, bale = Probe(Loom.every(ONE).into(Bale.shaped(ONE, ".*a")), 1, True), Bale.shaped(ONE, "ab*")
        told = repr((deed.told.arcs, deed.told.goods, bale.rows, bale.goods, deed.short, deed.flips))
        deed.image(bale), deed.source(bale), deed.makes("ab", "a"), deed.outs("ab").append("x")
        self.assertEqual(repr((deed.told.arcs, deed.told.goods, bale.rows, bale.goods, deed.short, deed.flips)), told)
        self.assertEqual(deed.outs("ab"), ["a", "b"])
