"""Points 11 to 13: the operators and methods of bales, compared with plain trying."""

import copy
import random
import unittest

from galloon.bales import Bale, columns_at, columns_from_end, differing
from galloon.errors import BadCount, UnlikeSchemes
from galloon.schemes import Scheme
from tests.helpers import FAR, ONE, SCHEMES, Checked, check_least_bale, members, random_rows, words

TWO = Scheme(2, 2)
MOST = dict(zip([scheme.columns for scheme in SCHEMES], [6, 4, 4, 3, 3]))


def random_bales(seed, many, states=(1, 2, 3, 5)):
    """Some bales of each scheme, the empty one and that of all strips among them."""
    rng = random.Random(seed)
    for scheme in SCHEMES:
        bales = [Bale.none(scheme), Bale.every(scheme), Bale.listed(scheme, [""])]
        bales += [Bale(scheme, *random_rows(rng, scheme, rng.choice(states))) for _ in range(many)]
        yield scheme, MOST[scheme.columns], bales


def random_word(rng, scheme):
    return "".join(rng.choice(scheme.columns) for _ in range(rng.randrange(5)))


def pairs_of(seed, many):
    """Pairs of bales of one scheme."""
    rng = random.Random(seed)
    for scheme, most, bales in random_bales(seed, many):
        for _ in range(2 * many):
            yield scheme, most, rng.choice(bales), rng.choice(bales)


class InTest(Checked):
    def test_every_other_string_is_not_in(self):
        for text in ["c", "aB", " ", "a ", "0", "-", "", "\n", "ab" * 30 + "c"]:
            self.assertIs(text in Bale.every(ONE), text == "")
        self.assertIs("abc" in Bale.shaped(ONE, "ab"), False)
        self.assertIs("c" in Bale.none(ONE), False)
        self.assertIs("e" not in Bale.every(TWO), True)

    def test_long_strips(self):
        bale = Bale.shaped(ONE, "(ab)*")
        self.assertIs("ab" * 20 in bale, True)
        self.assertIs("ab" * 20 + "a" in bale, False)


class OperatorsTest(Checked):
    def test_and_or_minus_xor(self):
        for scheme, most, first, second in pairs_of(21, 12):
            left, right = set(members(first, most)), set(members(second, most))
            for bale, strips in [
                (first & second, left & right),
                (first | second, left | right),
                (first - second, left - right),
                (first ^ second, left ^ right),
            ]:
                self.assertEqual(set(members(bale, most)), strips)
                check_least_bale(self, bale)

    def test_not(self):
        for scheme, most, bales in random_bales(22, 8):
            for bale in bales:
                left = [word for word in words(scheme, most) if word not in bale]
                self.assertEqual(members(~bale, most), left)
                check_least_bale(self, ~bale)
                self.assertEqual(~~bale, bale)

    def test_the_laws_of_sets(self):
        for scheme, most, first, second in pairs_of(23, 8):
            self.assertEqual(~(first & second), ~first | ~second)
            self.assertEqual(first - second, first & ~second)
            self.assertEqual(first ^ second, (first - second) | (second - first))
            self.assertEqual(first ^ first, Bale.none(scheme))
            self.assertEqual(first | ~first, Bale.every(scheme))

    def test_plus(self):
        for scheme, most, first, second in pairs_of(24, 8):
            bale = first + second
            joined = {
                word for word in words(scheme, most)
                if any(word[:at] in first and word[at:] in second for at in range(len(word) + 1))
            }
            self.assertEqual(set(members(bale, most)), joined)
            check_least_bale(self, bale)

    def test_bool(self):
        for scheme, most, bales in random_bales(25, 8):
            for bale in bales:
                self.assertIs(bool(bale), members(bale, 5 if len(scheme) < 5 else 4) != [])
        self.assertIs(bool(Bale.listed(ONE, [""])), True)
        self.assertIs(bool(Bale.none(ONE)), False)

    def test_within_and_differing(self):
        for scheme, most, first, second in pairs_of(26, 12):
            for one, other in [(first, second), (first & second, first), (first, first | second), (first, first)]:
                left, right = members(one, most), members(other, most)
                self.assertIs(one.within(other), not one - other)
                if one.within(other):
                    self.assertEqual([word for word in left if word not in right], [])
                apart = [word for word in words(scheme, most) if (word in left) != (word in right)]
                found = differing(one, other)
                self.assertEqual(found is None, one == other)
                if apart:
                    self.assertEqual(found, apart[0])

    def test_known_answers(self):
        none, every = Bale.none(ONE), Bale.every(ONE)
        self.assertIs(none.within(every), True)
        self.assertIs(every.within(none), False)
        self.assertEqual([differing(none, every), differing(every, every)], ["", None])
        self.assertEqual(differing(Bale.shaped(ONE, "a*"), Bale.shaped(ONE, "a*b?")), "b")

    def test_many_sets_of_states(self):
        # The first has many states from left to right, the second from right to left.
        for bale in [Bale.shaped(ONE, ".*b").starred() & Bale.showing(ONE, "b", 11, from_end=True),
                     Bale.showing(ONE, "b", 11)]:
            found = bale + Bale.shaped(ONE, "(aaa)*")
            self.assertEqual(found.mirrored().mirrored(), found)
            joined = {
                word for word in words(ONE, 13)
                if any(word[:at] in bale and not (len(word) - at) % 3 and "b" not in word[at:]
                       for at in range(len(word) + 1))
            }
            self.assertEqual(set(members(found, 13)), joined)
        found = Bale.showing(ONE, "b", 12, from_end=True)
        self.assertEqual((len(found.rows), len(found.mirrored().rows)), (2 ** 13, 14))
        check_least_bale(self, found)

    def test_results_of_many_states_may_be_passed_on(self):
        bale = Bale.shaped(ONE, ".*a..........")
        self.assertEqual((bale & ~bale, bale | ~bale), (Bale.none(ONE), Bale.every(ONE)))
        self.assertEqual(len((bale ^ Bale.shaped(ONE, ".*b..........")).rows), 12)
        self.assertEqual(bale.mirrored().mirrored(), bale)


class ListingTest(Checked):
    def test_first(self):
        for scheme, most, bales in random_bales(31, 10):
            for bale in bales:
                strips = members(bale, most)
                if strips:
                    self.assertEqual(bale.first(), strips[0])
                self.assertEqual(bale.first() is None, not bale)
        self.assertEqual(Bale.shaped(ONE, "b" * 12).first(), "b" * 12)
        self.assertEqual(Bale.shaped(ONE, "bbb|baaa|bab").first(), "bab")

    def test_strips(self):
        for scheme, most, bales in random_bales(32, 10):
            for bale in bales:
                for length in range(-2, most + 1):
                    self.assertEqual(list(bale.strips(length)), members(bale, length))

    def test_negative_integers_give_no_strips(self):
        for most in [-1, -2, -FAR]:
            self.assertEqual(list(Bale.every(ONE).strips(most)), [])

    def test_one_after_the_other(self):
        made = Bale.shaped(ONE, "(aaaa)*b").strips(FAR)
        self.assertEqual([next(made) for _ in range(3)], ["b", "aaaab", "a" * 8 + "b"])
        made = Bale.every(Scheme(2, 3)).of_length(60).strips(60)
        self.assertEqual([next(made) for _ in range(3)], ["a" * 60, "a" * 59 + "b", "a" * 59 + "c"])

    def test_the_strips_of_a_finite_bale_come_to_an_end(self):
        self.assertEqual(list(Bale.shaped(ONE, "a?bb|b").strips(FAR)), ["b", "bb", "abb"])
        self.assertEqual(list(Bale.none(ONE).strips(FAR)), [])
        self.assertEqual(list(Bale.listed(ONE, [""]).strips(10 ** 39)), [""])

    def test_loops_within_loops(self):
        bale = Bale.shaped(ONE, "a*b?")
        found = [(one, other) for one in bale.strips(2) for other in bale.strips(2)]
        strips = ["", "a", "b", "aa", "ab"]
        self.assertEqual(found, [(one, other) for one in strips for other in strips])

    def test_how_many(self):
        for scheme, most, bales in random_bales(33, 10):
            for bale in bales:
                strips = members(bale, most)
                for length in range(-2, most + 1):
                    many = len([strip for strip in strips if len(strip) == length])
                    self.assertEqual(bale.how_many(length), many)

    def test_how_many_counts_and_does_not_list(self):
        for scheme in SCHEMES:
            self.assertEqual(Bale.every(scheme).how_many(60), len(scheme) ** 60)
            self.assertEqual(Bale.none(scheme).how_many(60), 0)
        self.assertEqual(Bale.showing(TWO, "abc", 7).how_many(40), 4 ** 37)
        self.assertEqual(Bale.shaped(ONE, "a*ba*ba*").how_many(60), 60 * 59 // 2)
        fibonacci = [0, 1]
        while len(fibonacci) < 70:
            fibonacci.append(fibonacci[-1] + fibonacci[-2])
        self.assertEqual(Bale.shaped(ONE, "(b?a)*b?").how_many(60), fibonacci[62])

    def test_how_many_of_far_off_lengths(self):
        self.assertEqual(Bale.every(ONE).how_many(-FAR), 0)
        self.assertEqual(Bale.shaped(ONE, "a?b*a").how_many(FAR), 2)
        self.assertEqual(Bale.shaped(ONE, "(aa)*").how_many(FAR), 0)
        self.assertEqual(Bale.shaped(ONE, "a*ba*").how_many(10 ** 39), 10 ** 39)
        self.assertEqual(Bale.listed(ONE, ["ab", "b"]).how_many(10 ** 39), 0)
        for length in [999, 1000, 1001, 1002, 2500]:
            self.assertEqual(Bale.every(TWO).how_many(length), 4 ** length)


class MakingTest(Checked):
    def test_of_length(self):
        for scheme, most, bales in random_bales(41, 8):
            for bale in bales:
                for length in range(most + 1):
                    found = bale.of_length(length)
                    strips = [strip for strip in members(bale, most) if len(strip) == length]
                    self.assertEqual(members(found, most), strips)
                    check_least_bale(self, found)
        self.assertEqual(len(Bale.every(TWO).of_length(60).rows), 61)
        for length in [-1, -FAR]:
            self.fails(BadCount, {"count": length}, Bale.every(ONE).of_length, length)

    def test_mirrored(self):
        for scheme, most, bales in random_bales(42, 10):
            for bale in bales:
                found = bale.mirrored()
                turned_round = {strip[::-1] for strip in members(bale, most)}
                self.assertEqual(set(members(found, most)), turned_round)
                check_least_bale(self, found)
                self.assertEqual(found.mirrored(), bale)

    def test_starred(self):
        for scheme, most, bales in random_bales(43, 8):
            for bale in bales:
                found = bale.starred()
                whole = {""}
                for word in words(scheme, most)[1:]:
                    if any(word[:at] in whole and word[at:] in bale for at in range(len(word))):
                        whole.add(word)
                self.assertEqual(set(members(found, most)), whole)
                check_least_bale(self, found)
        self.assertEqual(members(Bale.none(ONE).starred(), 3), [""])
        self.assertEqual(Bale.listed(ONE, [""]).starred(), Bale.listed(ONE, [""]))

    def test_starred_where_the_empty_strip_stands_alone(self):
        self.assertEqual(Bale.shaped(ONE, "ab*a").starred(), Bale.shaped(ONE, "(ab*a)*"))
        self.assertEqual(Bale.shaped(ONE, "(ab)*b").starred(), Bale.shaped(ONE, "((ab)*b)*"))

    def test_cut(self):
        for scheme, most, bales in random_bales(44, 8):
            for bale in bales:
                for front, back in [(0, 0), (1, 0), (0, 1), (1, 1), (2, 0), (0, 2), (2, 1)]:
                    found = bale.cut(front, back)
                    long = [strip for strip in members(bale, most) if len(strip) >= front + back]
                    left = {strip[front:len(strip) - back] for strip in long}
                    self.assertEqual(set(members(found, most - front - back)), left)
                    check_least_bale(self, found)

    def test_cut_far_off(self):
        self.assertEqual(Bale.shaped(ONE, "(ab)*").cut(FAR, 0), Bale.shaped(ONE, "b(ab)*"))
        self.assertEqual(Bale.shaped(ONE, "(ab)*").cut(1, 10 ** 39), Bale.shaped(ONE, "b(ab)*"))
        self.assertEqual(Bale.shaped(ONE, "b(aab)*").cut(10 ** 39 + 1, FAR - 5).lengths()[1], 3)
        # FAR is 2 modulo 3, so that just the strip bb and some whole aab are taken away.
        for more, rest in [(0, "(aab)*"), (1, "ab(aab)*"), (2, "b(aab)*"), (3, "(aab)*"), (10 ** 38, "ab(aab)*")]:
            self.assertEqual(Bale.shaped(ONE, "bb(aab)*").cut(FAR + more, 0), Bale.shaped(ONE, rest))
            turned_round = Bale.shaped(ONE, rest).mirrored()
            self.assertEqual(Bale.shaped(ONE, "(baa)*bb").cut(0, FAR + more), turned_round)
        self.assertEqual(Bale.shaped(ONE, "a?b?").cut(FAR, 0), Bale.none(ONE))
        self.assertEqual(Bale.shaped(ONE, "a?b?").cut(0, FAR), Bale.none(ONE))
        self.assertEqual(Bale.every(ONE).cut(FAR, FAR), Bale.every(ONE))

    def test_cut_errors(self):
        bale = Bale.every(ONE)
        for count in [-1, -FAR]:
            self.fails(BadCount, {"count": count}, bale.cut, count, 0)
            self.fails(BadCount, {"count": count}, bale.cut, 0, count)
            self.fails(BadCount, {"count": count}, bale.cut, count, -7)
            self.fails(BadCount, {"count": count}, Bale.none(ONE).cut, 5, count)

    def test_parts(self):
        for scheme, most, bales in random_bales(45, 10, states=(1, 2, 3)):
            for bale in bales:
                found = bale.parts()
                # Each part stands in a strip that has at most two more columns on either side.
                whole = members(bale, most)
                parts = {
                    strip[at:end] for strip in whole for end in range(len(strip) + 1) for at in range(end + 1)
                }
                short = max(most - 4, 0)
                self.assertEqual(set(members(found, short)), {part for part in parts if len(part) <= short})
                self.assertIs(parts <= set(members(found, most)), True)
                check_least_bale(self, found)
        self.assertEqual(Bale.none(ONE).parts(), Bale.none(ONE))
        self.assertEqual(members(Bale.listed(ONE, ["abb"]).parts(), 4), ["", "a", "b", "ab", "bb", "abb"])


class LengthsTest(Checked):
    def plain_lengths(self, bale, horizon=100):
        """The lengths of a small table, by trying each period and each start in turn."""
        has = [bale.how_many(length) > 0 for length in range(2 * horizon)]
        for period in range(1, horizon):
            for start in range(horizon):
                if all(has[n] == has[n + period] for n in range(start, 2 * horizon - period)):
                    early = [n for n in range(start) if has[n]]
                    return (start, period, early, [n for n in range(start, start + period) if has[n]])
        return None

    def test_small_tables(self):
        for scheme, _, bales in random_bales(51, 14):
            for bale in bales:
                self.assertEqual(bale.lengths(), self.plain_lengths(bale))

    def test_known_lengths(self):
        for pattern, told in [
            ("", (1, 1, [0], [])),
            ("a|bbb", (4, 1, [1, 3], [])),
            (".*", (0, 1, [], [0])),
            ("...b*", (3, 1, [], [3])),
            ("(aa)*", (0, 2, [], [0])),
            ("a(aa)*", (0, 2, [], [1])),
            ("aaa(aa)*", (2, 2, [], [3])),
            ("(aa)*|(bbb)*", (0, 6, [], [0, 2, 3, 4])),
            ("a|(aaa)*", (2, 3, [0, 1], [3])),
            ("(aaaa)*|bb(aaaa)*", (0, 2, [], [0])),
            ("bbb(aaaa)*|b(aaaa)*", (0, 2, [], [1])),
            ("(aa)*|b(aa)*", (0, 1, [], [0])),
            ("(aa)*|bbbbb", (6, 2, [0, 2, 4, 5], [6])),
            ("(aaa)*|(bbbb)*|(ababa)*", (0, 60, [], [n for n in range(60) if n % 3 == 0 or n % 4 == 0 or n % 5 == 0])),
        ]:
            self.assertEqual(Bale.shaped(ONE, pattern).lengths(), told, pattern)
        for scheme in SCHEMES:
            self.assertEqual(Bale.none(scheme).lengths(), (0, 1, [], []))

    def test_kinds(self):
        found = Bale.shaped(ONE, "a|(aaa)*").lengths()
        self.assertEqual([part.__class__ for part in found], [int, int, list, list])
        self.assertIs(found.__class__, tuple)


class GeneralTest(Checked):
    def test_unlike_schemes_come_first(self):
        for one in SCHEMES:
            for other in SCHEMES:
                if one == other:
                    continue
                first, second = Bale.every(one), Bale.none(other)
                for call in [
                    lambda: first & second,
                    lambda: first | second,
                    lambda: first - second,
                    lambda: first ^ second,
                    lambda: first + second,
                    lambda: first.within(second),
                    lambda: second.within(first),
                    lambda: differing(first, second),
                    lambda: first.within(other=second),
                ]:
                    self.fails(UnlikeSchemes, {}, call)

    def test_equal_schemes_need_not_be_the_same_object(self):
        bale = Bale.every(Scheme(1, 2)) & Bale.shaped(Scheme(1, 2), "ab")
        self.assertEqual((bale.scheme, members(bale, 2)), (ONE, ["ab"]))

    def test_nothing_changes_the_bales(self):
        for scheme, _, first, second in pairs_of(61, 6):
            told = copy.deepcopy([(bale.rows, bale.goods) for bale in (first, second)])
            for made in [first & second, first | second, first - second, first ^ second, first + second, ~first,
                         first.mirrored(), first.starred(), first.cut(1, 1), first.parts(), first.of_length(2)]:
                self.assertFalse(made.rows is first.rows or made.goods is first.goods)
                self.assertFalse(any(row is other for row in made.rows for other in first.rows + second.rows))
            results = [first.within(second), differing(first, second), first == second, bool(first), "a" in first,
                       first.first(), list(first.strips(2)), first.how_many(3), first.lengths()]
            self.assertEqual(len(results), 9)
            with self.assertRaises(BadCount):
                first.cut(0, -1)
            self.assertEqual([(bale.rows, bale.goods) for bale in (first, second)], told)

    def test_returned_lists_are_new(self):
        bale = Bale.shaped(ONE, "a|(aaa)*")
        for _ in range(2):
            found = bale.lengths()
            self.assertEqual(found, (2, 3, [0, 1], [3]))
            found[2].append(9)
            found[3].clear()

    def test_columns_at_an_index(self):
        rng = random.Random(62)
        for at in range(200):
            scheme = SCHEMES[at % 3]
            bale = Bale.listed(scheme, [random_word(rng, scheme) for _ in range(rng.randrange(6))])
            for index in range(4):
                strips = [strip for strip in members(bale, 4) if index < len(strip)]
                self.assertEqual(columns_at(bale, index), sorted({strip[index] for strip in strips}))
                self.assertEqual(columns_from_end(bale, index), sorted({strip[-1 - index] for strip in strips}))
        endless = Bale.shaped(TWO, "[bd](aa)*c")
        known = [["b", "d"], ["a", "c"], ["a"], ["a", "c"]]
        self.assertEqual([columns_at(endless, index) for index in range(4)], known)
        known = [["c"], ["a", "b", "d"], ["a"], ["a", "b", "d"]]
        self.assertEqual([columns_from_end(endless, index) for index in range(4)], known)

    def test_columns_from_the_end_of_random_tables(self):
        rng = random.Random(63)
        for at in range(100):
            scheme = SCHEMES[at % 3]
            bale = Bale(scheme, *random_rows(rng, scheme, rng.randint(1, 7)))
            for index in range(12):
                self.assertEqual(columns_from_end(bale, index), columns_at(bale.mirrored(), index))

    def test_columns_from_an_end_that_is_hard_to_read_backwards(self):
        # The mirrored strips have a table of more than a million states.
        bale = Bale.showing(ONE, "b", 20) & Bale.showing(ONE, "ab", 2, from_end=True)
        known = [["a", "b"], ["a", "b"], ["b"], ["a"], ["a", "b"]]
        self.assertEqual([columns_from_end(bale, index) for index in range(5)], known)
        self.assertEqual([columns_at(bale, index) for index in (19, 20, 21)], [["a", "b"], ["b"], ["a", "b"]])

    def test_the_examples_of_the_interface(self):
        found = [list(Bale.shaped(ONE, "a*b").strips(2)), Bale.shaped(ONE, "(aa)*").lengths()]
        self.assertEqual(found, [["b", "ab"], (0, 2, [], [0])])


if __name__ == "__main__":
    unittest.main()
