"""Points 25 to 27: changed spots, slopes, weights and worst turns."""

import itertools
import random
from fractions import Fraction

from galloon.bales import Bale
from galloon.errors import BadCount, BadStrip, UnequalLengths
from galloon.looms import Loom
from galloon.schemes import Scheme
from galloon.weights import changed, slope, weights, weights_hold, worst_turn
from tests.helpers import FAR, ONE, SCHEMES, Checked, random_arcs

TWO = Scheme(2, 2)
BIG = 10 ** 39


def some_looms(seed, many):
    """Small looms of all schemes."""
    rng = random.Random(seed)
    for scheme in SCHEMES:
        for _ in range(many):
            loom = Loom(scheme, *random_arcs(rng, scheme, rng.choice((1, 2, 3, 4)), rng.choice((1, 1, 2))))
            if len(loom) <= 6:
                yield rng, loom


def spots(loom, arc):
    """The number of spots that an arc changes, from the pictures of its columns."""
    before, after = loom.scheme.picture(arc[0]), loom.scheme.picture(arc[1])
    return sum(one != other for one, other in zip(before, after))


def simple_walks(loom, state, passed):
    """All walks from a state that meet no state twice, as pairs of the last state and the arcs."""
    yield state, []
    for arc in loom.arcs[state]:
        if arc[2] not in passed:
            for last, rest in simple_walks(loom, arc[2], passed | {arc[2]}):
                yield last, [arc] + rest


def rings(loom):
    """The lists of arcs of all ways round that meet no other state twice."""
    for state in range(len(loom)):
        for last, arcs in simple_walks(loom, state, {state}):
            for arc in loom.arcs[last]:
                if arc[2] == state:
                    yield arcs + [arc]


def plain_slope(loom):
    """The greatest mean of changed spots on a way round, as a fraction."""
    means = [Fraction(sum(spots(loom, arc) for arc in arcs), len(arcs)) for arcs in rings(loom)]
    return max(means, default=None)


class ChangedTest(Checked):
    def test_spots_are_counted_and_not_columns(self):
        self.assertEqual(changed(TWO, "abcd", "abcd"), 0)
        self.assertEqual(changed(TWO, "abcd", "dcba"), 8)
        self.assertEqual(changed(TWO, "aa", "bd"), 3)
        self.assertEqual(changed(Scheme(2, 3), "ai", "ie"), 4)
        self.assertEqual(changed(Scheme(3, 2), "ah", "ha"), 6)
        self.assertEqual(changed(ONE, "", ""), 0)

    def test_all_pairs_of_columns(self):
        for scheme in SCHEMES:
            for one, other in itertools.product(scheme.columns, repeat=2):
                unlike = [a != b for a, b in zip(scheme.picture(one), scheme.picture(other))]
                self.assertEqual(changed(scheme, one + "a", other + "a"), sum(unlike))

    def test_errors_in_their_order(self):
        self.fails(UnequalLengths, {"one": 2, "other": 1}, changed, TWO, "ab", "a")
        self.fails(UnequalLengths, {"one": 0, "other": 3}, changed, TWO, "", "abc")
        self.fails(BadStrip, {"text": "e"}, changed, TWO, "e", "ff")
        self.fails(BadStrip, {"text": "ff"}, changed, TWO, "a", "ff")


class SlopeTest(Checked):
    def test_plain_trying(self):
        seen = set()
        for _, loom in some_looms(400, 60):
            top, bottom = slope(loom)
            best = plain_slope(loom) or Fraction(0)
            self.assertEqual((top, bottom), (best.numerator, best.denominator))
            seen.add((top, bottom))
        self.assertGreater(len(seen), 8)

    def test_known_slopes(self):
        self.assertEqual(slope(Loom.identity(TWO)), (0, 1))
        self.assertEqual(slope(Loom.none(TWO)), (0, 1))
        self.assertEqual(slope(Loom.every(TWO)), (2, 1))
        self.assertEqual(slope(Loom.every(Scheme(3, 2))), (3, 1))
        self.assertEqual(slope(Loom.of_pairs(TWO, [("aaaa", "dddd")])), (0, 1))
        # What is changed before the only way round does not count.
        self.assertEqual(slope(Loom(ONE, [[("a", "b", 1)], [("a", "a", 1)]], [False, True])), (0, 1))

    def test_lowest_terms(self):
        ring = [[("a", "d", 1)], [("a", "d", 2)], [("a", "a", 3)], [("a", "a", 4)], [("a", "a", 5)], [("a", "d", 0)]]
        self.assertEqual(slope(Loom(TWO, ring, [True] + [False] * 5)), (1, 1))
        self.assertEqual(slope(Loom(TWO, ring[:5] + [[("a", "b", 0)]], [True] + [False] * 5)), (5, 6))

    def test_the_worse_of_two_ways_round(self):
        # One way round has 39 arcs and changes 38 spots, the other one 20 arcs and 19 spots.
        arcs = [[("a", "b", 1)]] + [[("a", "b", at + 1)] for at in range(1, 38)] + [[("a", "a", 0)]]
        arcs[19].append(("b", "b", 0))
        loom = Loom(ONE, arcs, [True] + [False] * 38)
        self.assertEqual(slope(loom), (38, 39))
        arcs[19][-1] = ("b", "a", 0)
        self.assertEqual(slope(Loom(ONE, arcs, [True] + [False] * 38)), (1, 1))

    def test_what_comes_to_no_good_end_does_not_count(self):
        arcs = [[("a", "a", 0), ("b", "a", 1)], [("b", "a", 1)]]
        self.assertEqual(slope(Loom(ONE, arcs, [True, False])), (0, 1))
        self.assertEqual(slope(Loom(ONE, arcs, [True, True])), (1, 1))


class WeightsTest(Checked):
    def greatest(self, loom, top, bottom):
        """The greatest weights, from all walks that meet no state twice."""
        found = {}
        for last, arcs in simple_walks(loom, 0, {0}):
            weight = bottom * sum(spots(loom, arc) for arc in arcs) - top * len(arcs)
            found[last] = max(found.get(last, weight), weight)
        return [found[state] for state in range(len(loom))]

    def test_just_at_below_and_above_the_slope(self):
        for rng, loom in some_looms(410, 40):
            top, bottom = slope(loom)
            factor = rng.randrange(1, 5)
            for up, down in [(top, bottom), (top * factor, bottom * factor), (top * BIG, bottom * BIG),
                             (top * BIG + 1, bottom * BIG), (top + rng.randrange(4), bottom)]:
                numbers = weights(loom, up, down)
                self.assertEqual(numbers, self.greatest(loom, up, down))
                self.assertIs(weights_hold(loom, up, down, numbers), True)
            if top:
                for up, down in [(top - 1, bottom), (top, bottom + 1), (top * BIG - 1, bottom * BIG),
                                 (top * BIG, bottom * BIG + 1), (0, 1), (0, BIG)]:
                    self.assertIsNone(weights(loom, up, down))

    def test_the_start_weighs_nothing_at_least(self):
        loom = Loom(ONE, [[("a", "b", 1)], [("a", "a", 0), ("b", "a", 2)], []], [True, False, True])
        self.assertEqual(slope(loom), (1, 2))
        self.assertEqual(weights(loom, 1, 2), [0, 1, 2])
        self.assertEqual(weights(loom, 1, 1), [0, 0, 0])
        self.assertEqual(weights(loom, 2, 1), [0, -1, -2])
        self.assertIsNone(weights(loom, 1, 3))

    def test_looms_that_say_nothing_or_little(self):
        self.assertEqual(weights(Loom.none(TWO), 0, 1), [0])
        self.assertEqual(weights(Loom.identity(TWO), 0, 5), [0])
        self.assertEqual(weights(Loom.of_pairs(TWO, [("ab", "da")]), 0, 1), [0, 2, 3])
        self.assertEqual(weights(Loom.of_pairs(TWO, [("ab", "da")]), 3, 1), [0, -1, -3])

    def test_errors_in_their_order(self):
        loom = Loom.identity(TWO)
        for top in (-1, -FAR):
            self.fails(BadCount, {"count": top}, weights, loom, top, 0)
            self.fails(BadCount, {"count": top}, weights, loom, top, 1)
        for bottom in (0, -1, -FAR):
            self.fails(BadCount, {"count": bottom}, weights, loom, 0, bottom)

    def test_the_list_is_new(self):
        loom = Loom.identity(TWO)
        weights(loom, 1, 1).append(7)
        self.assertEqual(weights(loom, 1, 1), [0])

    def test_long_looms(self):
        # Two thousand states in one ring that changes a spot in each column but one.
        many = 2000
        arcs = [[("a", "b", (at + 1) % many)] for at in range(many - 1)] + [[("a", "a", 0)]]
        loom = Loom(ONE, arcs, [True] + [False] * (many - 1))
        self.assertEqual(slope(loom), (many - 1, many))
        self.assertIsNone(weights(loom, many - 2, many - 1))
        self.assertEqual(weights(loom, many - 1, many), list(range(many)))
        reads, writes = worst_turn(loom)[1]
        self.assertEqual((reads, sorted(writes)), ("a" * many, ["a"] + ["b"] * (many - 1)))


class WeightsHoldTest(Checked):
    def plain(self, loom, top, bottom, numbers):
        return len(numbers) == len(loom) and all(
            numbers[p] + bottom * spots(loom, arc) - top <= numbers[arc[2]]
            for p in range(len(loom)) for arc in loom.arcs[p]
        )

    def test_any_integers(self):
        answers = {True: 0, False: 0}
        for rng, loom in some_looms(420, 40):
            for _ in range(20):
                size = rng.choice((2, 4, FAR))
                top, bottom = rng.randrange(-1, size), rng.randrange(-2, 3)
                numbers = [rng.randrange(-2, 3) * rng.choice((1, FAR)) for _ in range(len(loom))]
                holds = weights_hold(loom, top, bottom, numbers)
                self.assertIs(holds, self.plain(loom, top, bottom, numbers))
                answers[holds] += 1
        self.assertGreater(min(answers.values()), 300)

    def test_one_less_and_one_more(self):
        for _, loom in some_looms(421, 30):
            top, bottom = slope(loom)
            numbers = weights(loom, top, bottom)
            for at in range(len(numbers)):
                for step in (-1, 1):
                    others = numbers[:at] + [numbers[at] + step] + numbers[at + 1:]
                    self.assertIs(weights_hold(loom, top, bottom, others), self.plain(loom, top, bottom, others))
            self.assertIs(weights_hold(loom, top, bottom, numbers + [0]), False)
            self.assertIs(weights_hold(loom, top, bottom, numbers[1:]), False)

    def test_all_arcs_count_where_the_fraction_is_negative(self):
        loom = Loom(ONE, [[("a", "a", 0), ("b", "a", 0)]], [True])
        self.assertIs(weights_hold(loom, -1, -1, [0]), False)
        self.assertIs(weights_hold(loom, 0, -1, [0]), True)
        self.assertIs(weights_hold(loom, 1, 1, [FAR]), True)
        self.assertIs(weights_hold(loom, 0, 1, [FAR]), False)

    def test_no_numbers(self):
        self.assertIs(weights_hold(Loom.none(ONE), 0, 1, []), False)
        self.assertIs(weights_hold(Loom.none(ONE), -5, -5, [FAR]), True)

    def test_the_list_stays(self):
        numbers = [0]
        weights_hold(Loom.every(ONE), 1, 1, numbers)
        self.assertEqual(numbers, [0])


class WorstTurnTest(Checked):
    def test_said_0_1_2_3_times(self):
        seen = {True: 0, False: 0}
        for _, loom in some_looms(430, 80):
            found = worst_turn(loom)
            seen[found is None] += 1
            self.assertEqual(found is None, plain_slope(loom) is None)
            if found is None:
                self.assertEqual(loom.domain().lengths()[3], [])
                continue
            self.assertIs(found.__class__, tuple)
            self.assertTrue(all(part.__class__ is tuple and len(part) == 2 for part in found))
            (a, x), (b, y), (c, z) = found
            self.assertEqual([len(a), len(b), len(c)], [len(x), len(y), len(z)])
            self.assertGreater(len(b), 0)
            top, bottom = slope(loom)
            self.assertEqual(bottom * changed(loom.scheme, b, y), top * len(b))
            for times in range(4):
                self.assertTrue(loom.says(a + b * times + c, x + y * times + z))
        self.assertGreater(min(seen.values()), 20)

    def test_looms_without_a_way_round(self):
        self.assertIsNone(worst_turn(Loom.none(ONE)))
        self.assertIsNone(worst_turn(Loom.of_pairs(ONE, [("ab", "ba"), ("", ""), ("abab", "aaaa")])))
        self.assertIsNone(worst_turn(Loom.every(TWO).on(Bale.shaped(TWO, "a?b?c?"))))

    def test_a_way_round_that_changes_nothing(self):
        (a, x), (b, y), (c, z) = worst_turn(Loom.identity(ONE).framed(1, 1))
        self.assertEqual((a, b, c), (x, y, z))
        self.assertNotEqual(b, "")

    def test_the_example_of_the_interface(self):
        loom = Loom(TWO, [[("a", "d", 1)], [("a", "a", 0)]], [True, False])
        self.assertEqual([slope(loom), weights(loom, 1, 1), weights(loom, 1, 2)], [(1, 1), [0, 1], None])
        (_, _), (b, y), (_, _) = worst_turn(loom)
        self.assertEqual(changed(TWO, b, y), len(b))
