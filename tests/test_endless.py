"""Points 55 and 56: endless strips, their windows, and where two of them differ."""

import random

from galloon.endless import Endless, endless_apart
from galloon.errors import BadEndless, UnlikeSchemes
from galloon.schemes import Scheme
from tests.helpers import ONE, OTHER_KINDS, SCHEMES, Checked
from tests.test_passes import random_strip

TWO = Scheme(2, 2)


def random_endless(rng, scheme, loop=6, middle=8):
    return Endless(scheme, random_strip(rng, scheme, 1, loop), random_strip(rng, scheme, 0, middle),
                   random_strip(rng, scheme, 1, loop), start=rng.randint(-9, 9))


def written_out(left, middle, right, start, begin, stop):
    """The columns from one index on, found in a long piece of the endless strip."""
    times = 2000
    text = left * times + middle + right * times
    first = start - len(left) * times
    return text[begin - first:stop - first]


class EndlessTest(Checked):
    def test_plain_trying(self):
        rng = random.Random(820)
        for scheme in SCHEMES:
            for _ in range(20):
                parts = (random_strip(rng, scheme, 1, 6), random_strip(rng, scheme, 0, 5), random_strip(rng, scheme, 1, 6))
                start = rng.choice((0, 1, -1, 7, -1000, 1000))
                endless = Endless(scheme, *parts, start=start)
                columns = [endless.column_at(index) for index in range(start - 20, start + 25)]
                self.assertEqual("".join(columns), written_out(*parts, start, start - 20, start + 25))
                for index in (-1000, 1000, 0):
                    self.assertEqual(endless.column_at(index), written_out(*parts, start, index, index + 1))
                begin, stop = start + rng.randint(-20, 10), start + rng.randint(-20, 20)
                self.assertEqual(endless.window(begin, stop), written_out(*parts, start, begin, max(begin, stop)))

    def test_known_strips(self):
        endless = Endless(TWO, "ab", "ccc", "db")
        self.assertEqual(endless.window(-5, 8), "babab" + "ccc" + "dbdbd")
        self.assertEqual([endless.column_at(index) for index in (-1, 0, 2, 3, 4)], ["b", "c", "c", "d", "b"])
        self.assertEqual(endless.scheme, TWO)
        endless = Endless(TWO, "ab", "ccc", "db", start=-2)
        self.assertEqual(endless.window(-5, 5), "bab" + "ccc" + "dbdb")
        self.assertEqual(endless.window(3, 3), "")
        self.assertEqual(endless.window(3, -3), "")
        self.assertEqual(endless.window(-1000, 1000)[995:1005], endless.window(-5, 5))

    def test_moved(self):
        rng = random.Random(821)
        for scheme in SCHEMES:
            for _ in range(10):
                endless = random_endless(rng, scheme)
                for by in (0, 1, -1, 13, -1000, 1000):
                    moved = endless.moved(by)
                    self.assertEqual(moved.window(-12, 12), endless.window(-12 + by, 12 + by))
                    self.assertTrue(moved.moved(-by) == endless)

    def test_errors_in_their_order(self):
        for left in ("", "abababa", "c", "A", " "):
            self.fails(BadEndless, {"part": "left"}, Endless, ONE, left, "z", "")
        for middle in ("c", "aaaaaaaaaa-", "A"):
            self.fails(BadEndless, {"part": "middle"}, Endless, ONE, "a", middle, "")
        for right in ("", "abababa", "c", "A", " "):
            self.fails(BadEndless, {"part": "right"}, Endless, ONE, "ababab", "a" * 40, right, start=5)
        self.assertEqual(Endless(ONE, "aaabbb", "", "bbbaaa").window(-6, 6), "aaabbbbbbaaa")
        with self.assertRaises(TypeError):
            Endless(ONE, "a", "a", "a", 0)


class EqualTest(Checked):
    def test_written_in_different_ways(self):
        base = Endless(ONE, "ab", "bba", "aab", start=3)
        for other in (
            Endless(ONE, "abab", "bba", "aab", start=3), Endless(ONE, "ababab", "bba", "aabaab", start=3),
            Endless(ONE, "ba", "bbba", "aab", start=2), Endless(ONE, "ab", "abbbaaab", "aab", start=1),
            Endless(ONE, "ab", "bbaa", "aba", start=3), Endless(ONE, "ab", "bb", "aaabaa"[:3], start=3),
            Endless(ONE, "ab", "bba" + "aab" * 10, "aab", start=3), Endless(ONE, "ab", "ab" * 10 + "bba", "aab", start=-17),
        ):
            known = all(base.column_at(index) == other.column_at(index) for index in range(-60, 60))
            self.assertIs(base == other, known)
            self.assertIs(base != other, not known)
            self.assertEqual(endless_apart(base, other) == [], known)
        self.assertTrue(base == Endless(ONE, "ababab", "bbaaab", "aabaab", start=3))
        self.assertTrue(Endless(ONE, "a", "", "a") == Endless(ONE, "aaa", "aaaa", "aa", start=-1000))
        self.assertTrue(Endless(ONE, "ab", "", "ab", start=1000) == Endless(ONE, "ab", "ababab", "ab", start=-1000))
        self.assertFalse(Endless(ONE, "ab", "", "ab", start=1000) == Endless(ONE, "ab", "", "ab", start=-999))

    def test_a_single_far_index(self):
        base = Endless(ONE, "ab", "", "aab")
        for at in (-1000, 999, 0, -1):
            begin = 2 * (at // 2)
            middle = base.window(begin, max(at + 1, 0)) if at < 0 else base.window(0, at + 1)
            first = begin if at < 0 else 0
            changed = middle[:at - first] + "ab"["ba".index(middle[at - first])] + middle[at - first + 1:]
            stop = first + len(changed)
            right = base.window(stop, stop + 3)
            other = Endless(ONE, "ab", changed, right, start=first)
            self.assertFalse(base == other)
            self.assertEqual(endless_apart(base, other), [at])

    def test_random_pairs(self):
        rng = random.Random(822)
        answers = {"equal": 0, "some": 0, "none": 0}
        for _ in range(600):
            scheme = rng.choice(SCHEMES[:2])
            one, other = random_endless(rng, scheme, 2, 3), random_endless(rng, scheme, 2, 3)
            if rng.random() < 0.5:
                begin, stop = one.start - rng.randrange(8), one.start + len(one.middle) + rng.randrange(8)
                middle = list(one.window(begin, stop))
                for _ in range(rng.randrange(3)):
                    if middle:
                        middle[rng.randrange(len(middle))] = rng.choice(scheme.columns)
                other = Endless(scheme, one.window(begin - 6, begin), "".join(middle), one.window(stop, stop + 6), start=begin)
            apart = [index for index in range(-200, 200) if one.column_at(index) != other.column_at(index)]
            known = None if apart and (apart[0] < -50 or apart[-1] > 50) else apart
            self.assertEqual(endless_apart(one, other), known)
            self.assertIs(one == other, known == [])
            answers["none" if known is None else "some" if known else "equal"] += 1
        self.assertGreater(min(answers.values()), 40)

    def test_known_indexes(self):
        one = Endless(ONE, "a", "bbb", "a", start=-2)
        for other, found in (
            (Endless(ONE, "a", "", "a"), [-2, -1, 0]), (Endless(ONE, "a", "bab", "a", start=-2), [-1]), (one, []),
            (Endless(ONE, "b", "bbb", "a", start=-2), None), (Endless(ONE, "a", "bbb", "ab", start=-2), None),
            (Endless(ONE, "aaaaab", "bbb", "a", start=-2), None), (one.moved(2), [-4, -3, -1, 0]),
            (Endless(ONE, "a", "", "b"), None),
        ):
            self.assertEqual(endless_apart(one, other), found)
            self.assertEqual(endless_apart(other, one), found)

    def test_unlike_schemes_and_other_kinds(self):
        one, other = Endless(ONE, "a", "a", "a"), Endless(TWO, "a", "a", "a")
        self.fails(UnlikeSchemes, {}, endless_apart, one, other)
        self.assertIs(one == other, False)
        for other in OTHER_KINDS + ["aaa"]:
            self.assertIs(one == other, False)
