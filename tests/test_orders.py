"""Points 45 and 46: different ways to rest, the shortest orders, and how many mendings there are."""

import random

from galloon.bales import Bale
from galloon.errors import BadStrip, NoDrift, UnlikeSchemes
from galloon.mends import Rest
from galloon.orders import ends_alike, schedule, settle, span
from galloon.rules import Rule, mended, restless
from galloon.schemes import Scheme
from tests.helpers import ONE, SCHEMES, Checked, random_rows, words
from tests.test_mends import CHOOSING, plain_once, plain_rests, reachable
from tests.test_passes import random_strip
from tests.test_rules import drifting_rule, plain_mended, random_rule

TWO = Scheme(2, 2)
THREE = Scheme(1, 3)
MIXED = [(ONE, "0:#,0,#>1;1,1,1>0"), (THREE, "0:#,.,#>1"), (Scheme(2, 3), "1:#012,.1,#012>0;#012,.0,#012>1")]


def longest(rule, strip, known):
    """The greatest number of mendings that change something, one after the other."""
    if strip not in known:
        nexts = {plain_mended(rule, strip, place) for place in range(len(strip))} - {strip}
        known[strip] = max([1 + longest(rule, other, known) for other in nexts], default=0)
    return known[strip]


def carried_out(case, rule, before, places):
    """The strip after some mendings, each of which must change it."""
    strip = before
    for place in places:
        following = mended(rule, strip, place)
        case.assertNotEqual(following, strip)
        strip = following
    return strip


class EndsAlikeTest(Checked):
    def test_plain_trying(self):
        rng = random.Random(740)
        answers = {True: 0, False: 0}
        for scheme, most in ((ONE, 6), (THREE, 4), (TWO, 4)):
            rules = [Rule.read(*told) for told in CHOOSING if told[0] == scheme]
            rules += [drifting_rule(rng, scheme, turn % 2 == 0) for turn in range(12)]
            for rule in rules:
                for bale in (Bale.every(scheme), Bale(scheme, *random_rows(rng, scheme, 3))):
                    found = ends_alike(rule, bale)
                    known = None
                    for strip in words(scheme, most):
                        rests = sorted(plain_rests(rule, strip)) if strip in bale else []
                        if len(rests) > 1:
                            known = (strip, rests[0], rests[1])
                            break
                    if known is None and found is not None:
                        self.assertGreater(len(found[0]), most)
                        self.assertIn(found[0], bale)
                        self.assertEqual(Rest(rule).outs(found[0])[:2], list(found[1:]))
                    else:
                        self.assertEqual(found, known)
                    answers[found is None] += 1
        self.assertGreater(min(answers.values()), 10)

    def test_bales_whose_first_such_strip_comes_later(self):
        rule = Rule.read(ONE, "0:#0,0,#0>1")
        for pattern, found in (
            (".*", ("aa", "ab", "ba")), ("b.*", ("baaa", "baab", "baba")),
            ("b*aab*", ("aa", "ab", "ba")), ("b+aab*", None), ("b+aaaa+b+", ("baaaab", "baabab", "babaab")),
            ("a?", None), ("(ab)*", None), ("", None), ("aaa", ("aaa", "aba", "bab")),
        ):
            self.assertEqual(ends_alike(rule, Bale.shaped(ONE, pattern)), found, pattern)
        self.assertIsNone(ends_alike(rule, Bale.none(ONE)))

    def test_monotone_rules_end_alike(self):
        rng = random.Random(741)
        many = 0
        for turn in range(150):
            scheme = rng.choice((ONE, THREE, TWO))
            rule = drifting_rule(rng, scheme, turn % 2 == 0, 3)
            if rule.monotone and rule.drift != "still":
                self.assertIsNone(ends_alike(rule, Bale.every(scheme)))
                many += 1
        self.assertGreater(many, 10)

    def test_errors_in_their_order(self):
        for scheme, text in MIXED:
            rule = Rule.read(scheme, text)
            self.fails(NoDrift, {}, ends_alike, rule, Bale.every(scheme))
            self.fails(NoDrift, {}, ends_alike, rule, Bale.none(scheme))
            self.fails(UnlikeSchemes, {}, ends_alike, rule, Bale.every(TWO))
        self.fails(UnlikeSchemes, {}, ends_alike, Rule.read(ONE, "0:"), Bale.every(THREE))


class ScheduleTest(Checked):
    def check(self, rule, before, after, fewest):
        """The list of places is one of the fewest, or None."""
        places = schedule(rule, before, after)
        if fewest is None:
            self.assertIsNone(places)
        else:
            self.assertIs(places.__class__, list)
            self.assertEqual(len(places), fewest)
            self.assertEqual(carried_out(self, rule, before, places), after)

    def test_plain_trying(self):
        rng = random.Random(742)
        answers = {True: 0, False: 0}
        for scheme, most in ((ONE, 6), (THREE, 4), (TWO, 4), (Scheme(3, 2), 2), (Scheme(2, 3), 2)):
            rules = [Rule.read(*told) for told in CHOOSING if told[0] == scheme]
            rules += [drifting_rule(rng, scheme, turn % 2 == 0) for turn in range(10)]
            for rule in rules:
                for _ in range(12):
                    before = random_strip(rng, scheme, 0, most)
                    steps = reachable(rule, before)
                    for after in list(steps)[-4:] + [random_strip(rng, scheme, len(before), len(before))]:
                        self.check(rule, before, after, steps.get(after))
                        answers[after in steps] += 1
        self.assertGreater(min(answers.values()), 100)

    def test_the_fewest_may_leave_colours_out(self):
        rule = Rule.read(THREE, "0:#,0,#012>1;#012,1,#012>2;#012,0,#012>2")
        self.assertEqual(schedule(rule, "a", "c"), [0, 0])
        self.assertEqual(schedule(rule, "aa", "ac"), [1])
        self.check(rule, "aaa", "ccc", 4)

    def test_none_and_empty_lists(self):
        rule = Rule.read(TWO, "0:#0,0.,#0>1")
        self.assertEqual(schedule(rule, "", ""), [])
        self.assertEqual(schedule(rule, "abcd", "abcd"), [])
        for before, after in (("a", ""), ("", "a"), ("a", "aa"), ("ab", "b"), ("a", "b"), ("c", "a"), ("aa", "cc"),
                              ("aa", "cb"), ("ca", "cc")):
            self.assertIsNone(schedule(rule, before, after), (before, after))
        self.assertEqual(schedule(rule, "ab", "cb"), [0])
        self.assertEqual(schedule(rule, "ab", "ad"), [1])
        schedule(rule, "ab", "ad").append(7)
        self.assertEqual(schedule(rule, "ab", "ad"), [1])

    def test_places_that_wait_for_places_far_away(self):
        # A place changes only when the one on its right has changed.
        rule = Rule.read(ONE, "0:#01,0,#1>1")
        self.assertEqual(schedule(rule, "a" * 40, "b" * 40), list(range(39, -1, -1)))
        self.assertEqual(schedule(rule, "a" * 40, "a" * 10 + "b" * 30), list(range(39, 9, -1)))
        self.assertIsNone(schedule(rule, "a" * 40, "a" + "b" * 38 + "a"))
        other = rule.mirrored()
        self.assertEqual(schedule(other, "a" * 40, "b" * 40), list(range(40)))

    def test_strips_of_40_columns(self):
        rng = random.Random(743)
        for scheme in SCHEMES:
            for turn in range(8):
                rule = drifting_rule(rng, scheme, turn % 2 == 0)
                before = strip = random_strip(rng, scheme, 40, 40)
                many = 0
                for _ in range(rng.randrange(60)):
                    places = restless(rule, strip)
                    if places:
                        strip = mended(rule, strip, rng.choice(places))
                        many += 1
                places = schedule(rule, before, strip)
                self.assertLessEqual(len(places), many)
                self.assertEqual(carried_out(self, rule, before, places), strip)
                fewest = sum(one != other for one, other in zip(before, strip))
                self.assertGreaterEqual(len(places), fewest)

    def test_errors_in_their_order(self):
        for scheme, text in MIXED:
            rule = Rule.read(scheme, text)
            for before, after in (("z", "z"), ("", ""), ("a", ""), ("a", "a")):
                self.fails(NoDrift, {}, schedule, rule, before, after)
        rule = Rule.read(ONE, "0:")
        self.fails(BadStrip, {"text": "c"}, schedule, rule, "c", "d")
        self.fails(BadStrip, {"text": "d"}, schedule, rule, "aaa", "d")


class SpanTest(Checked):
    def test_plain_trying(self):
        rng = random.Random(744)
        wide = 0
        for scheme, most in ((ONE, 6), (THREE, 4), (TWO, 4), (Scheme(3, 2), 2), (Scheme(2, 3), 2)):
            rules = [Rule.read(*told) for told in CHOOSING if told[0] == scheme]
            rules += [drifting_rule(rng, scheme, turn % 2 == 0) for turn in range(10)]
            for rule in rules:
                for _ in range(20):
                    strip = random_strip(rng, scheme, 0, most)
                    steps = reachable(rule, strip)
                    fewest = min(steps[rest] for rest in plain_rests(rule, strip))
                    found = span(rule, strip)
                    self.assertEqual(found, (fewest, longest(rule, strip, {})))
                    self.assertIs(found.__class__, tuple)
                    wide += found[0] < found[1]
        self.assertGreater(wide, 10)

    def test_known_spans(self):
        rule = Rule.read(ONE, "0:#0,0,#0>1")
        self.assertEqual([span(rule, "a" * many) for many in (0, 1, 2, 3, 4, 5, 6)],
                         [(0, 0), (1, 1), (1, 1), (1, 2), (2, 2), (2, 3), (2, 3)])
        self.assertEqual(span(rule, "a" * 40), (14, 20))
        rule = Rule.read(THREE, "0:#012,0,#012>1;#012,1,#012>2")
        self.assertEqual(span(rule, "a" * 40), (80, 80))
        self.assertEqual(span(rule, "abc" * 13), (39, 39))
        rule = Rule.read(THREE, "0:#,0,#>1;0,0,0>1;#0,0,#0>2;#012,1,#012>2")
        self.assertEqual(span(rule, "a"), (2, 2))
        self.assertEqual(span(Rule.read(TWO, "0:"), "abcd" * 10), (0, 0))

    def test_errors_in_their_order(self):
        for scheme, text in MIXED:
            self.fails(NoDrift, {}, span, Rule.read(scheme, text), "z")
            self.fails(NoDrift, {}, span, Rule.read(scheme, text), "")
        self.fails(BadStrip, {"text": "abc"}, span, Rule.read(ONE, "0:"), "abc")


class SettleTest(Checked):
    def test_plain_trying(self):
        rng = random.Random(745)
        for scheme in SCHEMES:
            for turn in range(12):
                rule = drifting_rule(rng, scheme, turn % 2 == 0)
                for strip in [random_strip(rng, scheme, 0, 8) for _ in range(8)] + [random_strip(rng, scheme, 40, 40)]:
                    found = settle(rule, strip)
                    rounds, out = 0, strip
                    while plain_once(rule, out) != out:
                        out, rounds = plain_once(rule, out), rounds + 1
                    self.assertEqual(found, (out, rounds))
                    self.assertEqual(restless(rule, out), [])

    def test_known_strips(self):
        rule = Rule.read(ONE, "0:1,0,#01>1")
        self.assertEqual(settle(rule, "b" + "a" * 39), ("b" * 40, 39))
        self.assertEqual(settle(rule, "a" * 40), ("a" * 40, 0))
        self.assertEqual(settle(rule, ""), ("", 0))
        rule = Rule.read(THREE, "0:#012,0,#012>1;#012,1,#012>2")
        self.assertEqual(settle(rule, "abc"), ("ccc", 2))

    def test_errors_in_their_order(self):
        for scheme, text in MIXED:
            self.fails(NoDrift, {}, settle, Rule.read(scheme, text), "z")
        self.fails(BadStrip, {"text": "c"}, settle, Rule.read(ONE, "0:"), "c")

    def test_nothing_is_changed(self):
        rule = random_rule(random.Random(746), ONE)
        told = str(rule)
        for call in (span, settle):
            try:
                call(rule, "abab")
            except NoDrift:
                pass
        self.assertEqual(str(rule), told)
