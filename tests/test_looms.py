"""Points 17 to 19: the operators and methods of looms, compared with plain trying."""

import copy
import itertools
import random
import unittest

from galloon.bales import Bale
from galloon.errors import BadCount, BadStrip, TooMany, UnlikeSchemes
from galloon.looms import Loom
from galloon.schemes import Scheme
from tests.helpers import (
    FAR,
    ONE,
    SCHEMES,
    Checked,
    check_least_loom,
    check_least_bale,
    members,
    random_arcs,
    random_rows,
    relation,
    words,
)

TWO = Scheme(2, 2)
MOST = dict(zip([scheme.columns for scheme in SCHEMES], [5, 3, 3, 2, 2]))
ARCS = dict(zip([scheme.columns for scheme in SCHEMES], [3, 4, 6, 9, 9]))

# It adds 1 to a number written with the digits a and b, the lowest one first.
ADDING = Loom(ONE, [[("b", "a", 0), ("a", "b", 1)], [("a", "a", 1), ("b", "b", 1)]], [True, True])
SWAPPING = Loom(ONE, [[("a", "b", 0), ("b", "a", 0)]], [True])


def fewer(scheme, many):
    """So many, or fewer for a scheme with many columns, which takes more time."""
    return many if len(scheme) < 5 else many // 2


def random_looms(seed, many):
    """Some looms of each scheme, those of the class methods among them."""
    rng = random.Random(seed)
    for scheme in SCHEMES:
        looms = [Loom.none(scheme), Loom.every(scheme), Loom.identity(scheme)]
        for _ in range(fewer(scheme, many)):
            looms.append(Loom(scheme, *random_arcs(rng, scheme, rng.choice([1, 2, 3]), ARCS[scheme.columns])))
        yield scheme, MOST[scheme.columns], looms


def pairs_of(seed, many):
    """Pairs of looms of one scheme, with what they say."""
    rng = random.Random(seed)
    for scheme, most, looms in random_looms(seed, many):
        for _ in range(2 * fewer(scheme, many)):
            first, second = rng.choice(looms), rng.choice(looms)
            yield most, first, second, relation(first, most), relation(second, most)


def looms_and_bales(seed, many):
    """Pairs of a loom and a bale of one scheme, with what the loom says."""
    rng = random.Random(seed)
    for scheme, most, looms in random_looms(seed, many):
        bales = [Bale.every(scheme), Bale.none(scheme)]
        bales += [Bale(scheme, *random_rows(rng, scheme, rng.choice([1, 2, 3]))) for _ in range(many)]
        for _ in range(2 * fewer(scheme, many)):
            loom = rng.choice(looms)
            yield most, loom, rng.choice(bales), relation(loom, most)


def behind(left, right):
    """The relation of two looms behind each other."""
    ahead = {}
    for between, after in right:
        ahead.setdefault(between, []).append(after)
    return {(before, after) for before, between in left for after in ahead.get(between, [])}


class OperatorsTest(Checked):
    def test_times(self):
        for most, first, second, left, right in pairs_of(81, 8):
            loom = first * second
            self.assertEqual(relation(loom, most), behind(left, right))
            check_least_loom(self, loom)

    def test_or_and_minus(self):
        for most, first, second, left, right in pairs_of(82, 8):
            for loom, pairs in [
                (first | second, left | right),
                (first & second, left & right),
                (first - second, left - right),
            ]:
                self.assertEqual(relation(loom, most), pairs)
                check_least_loom(self, loom)

    def test_the_inverse(self):
        for scheme, most, looms in random_looms(83, 8):
            for loom in looms:
                self.assertEqual(relation(~loom, most), {(y, x) for x, y in relation(loom, most)})
                check_least_loom(self, ~loom)
                self.assertEqual(~~loom, loom)

    def test_laws(self):
        for most, first, second, left, right in pairs_of(84, 4):
            self.assertEqual(~(first * second), ~second * ~first)
            self.assertEqual((first * second) * first, first * (second * first))
            self.assertEqual(first - (first - second), first & second)
            self.assertEqual(first * Loom.identity(first.scheme), first)
            self.assertEqual(Loom.identity(first.scheme) * first, first)
            self.assertEqual((first | second) * second, first * second | second * second)

    def test_bool(self):
        for scheme, most, looms in random_looms(85, 8):
            for loom in looms:
                self.assertIs(bool(loom), relation(loom, min(most, 3)) != set())
        self.assertIs(bool(Loom.of_pairs(ONE, [("", "")])), True)
        self.assertIs(bool(Loom.of_pairs(ONE, [("a" * 40, "b" * 40)])), True)
        self.assertIs(bool(Loom.of_pairs(ONE, [])), False)

    def test_within(self):
        for most, first, second, left, right in pairs_of(86, 8):
            self.assertIs(first.within(second), not first - second)
            if first.within(second):
                self.assertEqual(left - right, set())
            self.assertIs((first & second).within(first), True)
            self.assertIs(second.within(first | second), True)
            self.assertIs(first.within(first), True)
        self.assertIs(Loom.identity(ONE).within(Loom.every(ONE)), True)
        self.assertIs(Loom.every(ONE).within(Loom.identity(ONE)), False)
        self.assertIs(Loom.none(ONE).within(Loom.none(ONE)), True)
        self.assertIs(Loom.identity(ONE).within(other=Loom.none(ONE)), False)

    def test_results_of_many_states_may_be_passed_on(self):
        loom = Loom.identity(ONE).on(Bale.shaped(ONE, ".*a.........."))
        self.assertEqual(len(loom), 2 ** 11)
        self.assertEqual(loom * SWAPPING * SWAPPING, loom)
        self.assertEqual(loom & SWAPPING, Loom.none(ONE))
        self.assertEqual(len((loom * SWAPPING).mirrored()), 12)


class BalesTest(Checked):
    def test_on_and_into(self):
        for most, loom, bale, pairs in looms_and_bales(91, 8):
            strips = set(members(bale, most))
            for made, left in [
                (loom.on(bale), {pair for pair in pairs if pair[0] in strips}),
                (loom.into(bale), {pair for pair in pairs if pair[1] in strips}),
            ]:
                self.assertEqual(relation(made, most), left)
                check_least_loom(self, made)

    def test_image_source_and_domain(self):
        for most, loom, bale, pairs in looms_and_bales(92, 8):
            strips = set(members(bale, most))
            for made, left in [
                (loom.image(bale), {y for x, y in pairs if x in strips}),
                (loom.source(bale), {x for x, y in pairs if y in strips}),
                (loom.domain(), {x for x, y in pairs}),
            ]:
                self.assertEqual(set(members(made, most)), left)
                check_least_bale(self, made)

    def test_known_images(self):
        bale = Bale.shaped(ONE, "ab*")
        self.assertEqual(SWAPPING.image(bale), Bale.shaped(ONE, "ba*"))
        self.assertEqual(SWAPPING.source(bale), Bale.shaped(ONE, "ba*"))
        self.assertEqual(Loom.every(ONE).image(Bale.shaped(ONE, "(aa)*")), Bale.shaped(ONE, "(..)*"))
        self.assertEqual(Loom.of_pairs(ONE, [("a", "b"), ("bb", "ab")]).domain(), Bale.shaped(ONE, "a|bb"))


class MirroredTest(Checked):
    def test_mirrored(self):
        for scheme, most, looms in random_looms(93, 10):
            for loom in looms:
                found = loom.mirrored()
                pairs = {(x[::-1], y[::-1]) for x, y in relation(loom, most)}
                self.assertEqual(relation(found, most), pairs)
                check_least_loom(self, found)
                self.assertEqual(found.mirrored(), loom)


class RepeatedTest(Checked):
    def test_few_times(self):
        for scheme, most, looms in random_looms(94, 6):
            for loom in looms:
                pairs = {(word, word) for word in words(scheme, most)}
                for times in range(5 if len(scheme) < 5 else 3):
                    found = loom.repeated(times)
                    self.assertEqual(relation(found, most), pairs)
                    check_least_loom(self, found)
                    pairs = behind(pairs, relation(loom, most))

    def test_negative_integers(self):
        for times in [-1, -FAR]:
            self.fails(BadCount, {"count": times}, SWAPPING.repeated, times)

    def test_powers_that_come_back(self):
        for times in [FAR, FAR + 1, 10 ** 39, 10 ** 39 + 1]:
            expected = SWAPPING if times % 2 else Loom.identity(ONE)
            self.assertEqual(SWAPPING.repeated(times), expected)
            self.assertEqual(Loom.none(ONE).repeated(times), Loom.none(ONE))
            self.assertEqual(Loom.every(ONE).repeated(times), Loom.every(ONE))
        three = Scheme(1, 3)
        wheel = [("a", "b", 0), ("b", "c", 0), ("c", "a", 0)]
        # Every loom before the third power is new: before is 1, the period 3.
        loom = Loom(three, [wheel + [("a", "a", 1)], []], [True, True])
        powers = [loom.repeated(times) for times in range(9)]
        for times in range(9):
            self.assertEqual(loom.repeated(times), powers[times])
            self.assertEqual(loom.repeated(times) * loom, loom.repeated(times + 1))
        back = [at for at in range(8) if powers[8] == powers[at]]
        self.assertEqual(loom.repeated(10 ** 39), powers[8 - (8 - 10 ** 39) % (8 - back[-1])])

    def test_few_sets_from_right_to_left_only(self):
        # From left to right, the search for the third power meets some 855 000 sets of states.
        arcs = [
            [("a", "a", 0), ("a", "b", 1), ("b", "a", 0)],
            [("a", "b", 2), ("b", "b", 3)],
            [("a", "a", 0), ("a", "b", 4), ("b", "a", 4), ("b", "b", 1)],
            [("a", "b", 4), ("b", "a", 1), ("b", "b", 1)],
            [("a", "a", 0), ("a", "b", 5), ("b", "a", 0), ("b", "b", 3)],
            [("a", "a", 0), ("a", "b", 5), ("b", "a", 4), ("b", "b", 6)],
            [("a", "b", 5), ("b", "a", 1), ("b", "b", 6)],
        ]
        loom = Loom(ONE, arcs, [True, False, True, False, True, True, False])
        self.assertEqual((len(loom), len(loom.repeated(2)), len(loom.repeated(3))), (7, 101, 5))
        self.assertEqual(loom.repeated(4), loom.repeated(3))
        pairs = relation(loom, 5)
        self.assertEqual(relation(loom.repeated(3), 5), behind(pairs, behind(pairs, pairs)))

    def test_powers_that_never_come_back(self):
        for times in [39, 40, 41, 42, 100, 1023, 1024, FAR, 10 ** 39]:
            found = ADDING.repeated(times)
            number = times % 2 ** 12
            digits = "".join("ab"[number // 2 ** at % 2] for at in range(12))
            self.assertEqual(found.outs("a" * 12), [digits])
            self.assertEqual(len(found.outs("ab" * 20)), 1)
            self.assertEqual(found * ADDING, ADDING.repeated(times + 1))


class FramedTest(Checked):
    def test_framed(self):
        for scheme, most, looms in random_looms(95, 5):
            for loom in looms:
                pairs = relation(loom, most)
                for front, back in itertools.product(range(3), repeat=2):
                    if front + back > most:
                        continue
                    found = loom.framed(front, back)
                    self.assertEqual(relation(found, most), {
                        (left + x + right, left + y + right)
                        for x, y in pairs if len(x) <= most - front - back
                        for left in words(scheme, front) if len(left) == front
                        for right in words(scheme, back) if len(right) == back
                    })
                    check_least_loom(self, found)

    def test_strips_that_are_too_short(self):
        found = Loom.identity(ONE).framed(2, 3)
        self.assertEqual([found.outs("a" * length) for length in range(7)],
                         [[]] * 5 + [["a" * 5], ["a" * 6]])

    def test_wide_frames(self):
        found = SWAPPING.framed(6, 6)
        self.assertEqual(found.outs("ab" * 10), ["ababab" + "ba" * 4 + "ababab"])
        self.assertIs(Loom.none(TWO).framed(6, 6) == Loom.none(TWO), True)

    def test_errors(self):
        for count in [-1, -FAR]:
            self.fails(BadCount, {"count": count}, SWAPPING.framed, count, 0)
            self.fails(BadCount, {"count": count}, SWAPPING.framed, 0, count)
            self.fails(BadCount, {"count": count}, SWAPPING.framed, count, -7)


class OneStripTest(Checked):
    def test_says(self):
        for scheme, most, looms in random_looms(101, 5):
            short = words(scheme, 2)
            for loom in looms:
                pairs = relation(loom, 2)
                for before, after in itertools.product(short, repeat=2):
                    self.assertIs(loom.says(before, after), (before, after) in pairs)

    def test_says_of_long_strips(self):
        self.assertIs(SWAPPING.says("ab" * 20, "ba" * 20), True)
        self.assertIs(SWAPPING.says("ab" * 20, "ab" * 20), False)
        self.assertIs(SWAPPING.says("ab" * 20, "ba" * 19), False)
        self.assertIs(Loom.every(ONE).says("a", ""), False)

    def test_outs_first_out_and_count_outs(self):
        for scheme, most, looms in random_looms(102, 6):
            for loom in looms:
                pairs = relation(loom, most)
                outs = {}
                for before, after in sorted(pairs):
                    outs.setdefault(before, []).append(after)
                for strip in words(scheme, most):
                    found = outs.get(strip, [])
                    self.assertEqual(loom.outs(strip), found)
                    self.assertEqual(loom.count_outs(strip), len(found))
                    self.assertEqual(loom.first_out(strip), found[0] if found else None)

    def test_sure_lines(self):
        for scheme, most, looms in random_looms(103, 6):
            for loom in looms:
                for strip in words(scheme, most):
                    pictures = [scheme.picture(out) for out in loom.outs(strip)]
                    lines = [
                        "".join(
                            spots[0] if len(set(spots)) == 1 else "."
                            for spots in zip(*[picture[row] for picture in pictures])
                        )
                        for row in range(scheme.rows)
                    ]
                    self.assertEqual(loom.sure_lines(strip), lines if pictures else None)

    def test_known_sure_lines(self):
        loom = Loom.of_pairs(TWO, [("aaa", "abd"), ("aaa", "acd"), ("aaa", "abc"), ("", "")])
        self.assertEqual(loom.sure_lines("aaa"), ["0.1", "0.."])
        self.assertEqual(loom.sure_lines(""), ["", ""])
        self.assertEqual(loom.sure_lines("a"), None)
        self.assertEqual(Loom.none(TWO).sure_lines(""), None)

    def test_counted_and_not_listed(self):
        for scheme in SCHEMES:
            loom = Loom.every(scheme)
            self.assertEqual(loom.count_outs("a" * 40), len(scheme) ** 40)
            self.assertEqual(loom.first_out("b" * 40), "a" * 40)
            self.assertEqual(loom.sure_lines("a" * 40), ["." * 40] * scheme.rows)
            self.fails(TooMany, {"most": 200}, loom.outs, "a" * 40)

    def test_just_200_outs_and_one_more(self):
        strips = [word for word in words(ONE, 8) if len(word) == 8]
        for many in [199, 200]:
            loom = Loom.of_pairs(ONE, [("b" * 8, strip) for strip in reversed(strips[:many])])
            self.assertEqual(loom.outs("b" * 8), strips[:many])
        loom = Loom.of_pairs(ONE, [("b" * 8, strip) for strip in strips[:201]])
        self.assertEqual(loom.count_outs("b" * 8), 201)
        self.fails(TooMany, {"most": 200}, loom.outs, "b" * 8)
        self.assertEqual(loom.first_out("b" * 8), "a" * 8)
        wide = Loom.of_pairs(Scheme(1, 3), [("a" * 5, word) for word in words(Scheme(1, 3), 5)[-201:]])
        self.fails(TooMany, {"most": 200}, wide.outs, "a" * 5)
        self.assertEqual(wide.outs("a" * 4), [])

    def test_first_out_is_no_blind_choice(self):
        loom = Loom.of_pairs(ONE, [("aab", "aab"), ("aaa", "bba"), ("aaa", "bab")])
        self.assertEqual([loom.first_out(strip) for strip in ["aaa", "aab", "aba", "a"]], ["bab", "aab", None, None])

    def test_only_strips(self):
        for loom in [SWAPPING, Loom.none(ONE)]:
            for call in [loom.count_outs, loom.outs, loom.first_out, loom.sure_lines]:
                self.fails(BadStrip, {"text": "abc"}, call, "abc")
                self.fails(BadStrip, {"text": "c" * 9}, call, "c" * 9)
            self.fails(BadStrip, {"text": "c"}, loom.says, "c", "dd")
            self.fails(BadStrip, {"text": "dd"}, loom.says, "a", "dd")
            self.fails(BadStrip, {"text": "B"}, loom.says, "B", "a")


class GeneralTest(Checked):
    def test_unlike_schemes_come_first(self):
        for one, other in itertools.permutations(SCHEMES, 2):
            loom, more, bale = Loom.every(one), Loom.none(other), Bale.every(other)
            for call in [
                lambda: loom * more,
                lambda: loom | more,
                lambda: loom & more,
                lambda: loom - more,
                lambda: loom.within(more),
                lambda: loom.on(bale),
                lambda: loom.into(bale),
                lambda: loom.image(bale),
                lambda: loom.source(bale),
            ]:
                self.fails(UnlikeSchemes, {}, call)

    def test_nothing_changes_the_looms(self):
        for most, loom, bale, _ in looms_and_bales(111, 4):
            told = copy.deepcopy((loom.arcs, loom.goods, bale.rows, bale.goods))
            for made in [loom * loom, loom | loom, loom & loom, loom - loom, ~loom, loom.on(bale), loom.into(bale),
                         loom.mirrored(), loom.repeated(1), loom.repeated(2), loom.framed(0, 0), loom.framed(1, 1)]:
                self.assertFalse(any(row is other for row in made.arcs for other in loom.arcs))
                self.assertFalse(made.arcs is loom.arcs or made.goods is loom.goods)
            results = [loom.image(bale), loom.source(bale), loom.domain(), bool(loom), loom == loom, len(loom),
                       loom.says("a", "a"), loom.count_outs("aa"), loom.outs("a"), loom.first_out("a"),
                       loom.sure_lines("a"), loom.within(loom)]
            self.assertEqual(len(results), 12)
            with self.assertRaises(BadCount):
                loom.framed(1, -1)
            self.assertEqual((loom.arcs, loom.goods, bale.rows, bale.goods), told)

    def test_returned_lists_are_new(self):
        loom = Loom.every(ONE)
        for _ in range(2):
            outs, lines = loom.outs("a"), loom.sure_lines("a")
            self.assertEqual((outs, lines), (["a", "b"], ["."]))
            outs.append("x")
            lines.clear()

    def test_len(self):
        self.assertEqual([len(loom) for loom in (SWAPPING, ADDING, Loom.none(ONE))], [1, 2, 1])
        self.assertEqual(len(Loom.of_pairs(ONE, [("a" * 40, "b" * 40)])), 41)


if __name__ == "__main__":
    unittest.main()
