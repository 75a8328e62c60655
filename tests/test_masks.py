"""Points 30 to 32: masks."""

import itertools
import math
import random

from galloon.errors import BadCount, BadIndex, BadMask
from galloon.masks import Mask, masks_apart
from tests.helpers import FAR, OTHER_KINDS, Checked


def texts(least, most):
    """All strings of at least and at most so many marks, in shortlex order."""
    return ["".join(part) for size in range(least, most + 1) for part in itertools.product("+-", repeat=size)]


def spelt(start, loop, length):
    """The first marks, one by one."""
    return "".join((start + loop * length)[:length])


def random_mask(rng, most=6):
    start = "".join(rng.choice("+-") for _ in range(rng.randrange(most + 1)))
    return Mask(start, "".join(rng.choice("+-") for _ in range(rng.randrange(1, most + 1))))


class LeastFormTest(Checked):
    def test_all_masks(self):
        forms = {}
        for start in texts(0, 4):
            for loop in texts(1, 5):
                mask = Mask(start, loop)
                shown = spelt(start, loop, 30)
                self.assertEqual(spelt(mask.start, mask.loop, 30), shown)
                forms.setdefault(shown, []).append((len(loop), len(start), mask))
        for masks in forms.values():
            loop = min(found[0] for found in masks)
            start = min(found[1] for found in masks if found[0] == loop)
            for _, _, mask in masks:
                self.assertEqual((len(mask.loop), len(mask.start)), (loop, start))

    def test_known_forms(self):
        for start, loop, least in [
            ("", "+", ("", "+")), ("+", "+", ("", "+")), ("++++++", "++++++", ("", "+")),
            ("+-", "+-+-", ("", "+-")), ("-", "+-", ("", "-+")), ("+", "+-", ("+", "+-")),
            ("", "+-++-+", ("", "+-+")), ("--+", "-+", ("-", "-+")), ("+-+-", "-", ("+-+", "-")),
            ("+--+--", "+--", ("", "+--")), ("-+--", "+--", ("", "-+-")), ("+++--+", "-++--+", ("+", "++--+-")),
        ]:
            mask = Mask(start, loop)
            self.assertEqual((mask.start, mask.loop), least)

    def test_errors_in_their_order(self):
        for start in ("+++++++", "-------", "a", "+ ", "0", "(", "+-+-\n"):
            self.fails(BadMask, {"part": "start"}, Mask, start, "+")
            self.fails(BadMask, {"part": "start"}, Mask, start, "")
            self.fails(BadMask, {"part": "start"}, Mask, start, "x")
        for loop in ("", "+++++++", "+-+-+-+-", "x", " ", "+)", "+-+-\n"):
            self.fails(BadMask, {"part": "loop"}, Mask, "", loop)
            self.fails(BadMask, {"part": "loop"}, Mask, "+-+-+-", loop)

    def test_six_marks_are_not_too_many(self):
        mask = Mask("++++++", "-----+")
        self.assertEqual((mask.start, mask.loop), ("+++++", "+-----"))

    def test_equal(self):
        rng = random.Random(500)
        for _ in range(400):
            one, other = random_mask(rng, 3), random_mask(rng, 3)
            self.assertIs(one == other, one.marks(40) == other.marks(40))
            self.assertIs(one != other, one.marks(40) != other.marks(40))
        self.assertTrue(Mask("+-", "+-+-") == Mask("", "+-"))
        for other in OTHER_KINDS + ["(+)", ("", "+")]:
            self.assertIs(Mask.every() == other, False)


class MarksTest(Checked):
    def test_marks_one_by_one(self):
        for start in texts(0, 3):
            for loop in texts(1, 3):
                mask = Mask(start, loop)
                shown = spelt(start, loop, 20)
                self.assertEqual([mask.marks(length) for length in range(20)], [shown[:at] for at in range(20)])
                for at in range(20):
                    self.assertIs(mask[at], shown[at] == "+")

    def test_far_indexes(self):
        mask = Mask("+-", "++-")
        self.assertEqual(mask.marks(140), ("+-" + "++-" * 50)[:140])
        for at in (FAR, FAR + 1, FAR + 2):
            self.assertIs(mask[at], "++-"[(at - 2) % 3] == "+")
        self.assertIs(Mask("------", "+")[5], False)
        self.assertIs(Mask("------", "+")[6], True)

    def test_errors(self):
        for number in (-1, -2, -FAR):
            self.fails(BadIndex, {"at": number}, lambda: Mask.every()[number])
            self.fails(BadCount, {"count": number}, Mask.every().marks, number)

    def test_a_mask_cannot_be_iterated_over(self):
        for call in (iter, list, tuple, sorted, set, any):
            with self.assertRaises(TypeError):
                call(Mask.read("(+-)"))
        with self.assertRaises(TypeError):
            for _ in Mask.every():
                self.fail("nothing is yielded")
        with self.assertRaises(TypeError):
            True in Mask.every()


class OperatorsTest(Checked):
    def check(self, mask, shown):
        """The mask has these marks, in the least form."""
        self.assertEqual(mask.marks(len(shown)), shown)
        for size in range(1, len(mask.loop)):
            self.assertFalse(len(mask.loop) % size == 0 and mask.loop[:size] * (len(mask.loop) // size) == mask.loop)
        self.assertFalse(mask.start and mask.start[-1] == mask.loop[-1])

    def test_mark_by_mark(self):
        rng = random.Random(510)
        for _ in range(300):
            first, second = random_mask(rng), random_mask(rng)
            one, other = first.marks(150), second.marks(150)
            pairs = list(zip(one, other))
            self.check(first & second, "".join("+" if a == b == "+" else "-" for a, b in pairs))
            self.check(first | second, "".join("+" if "+" in (a, b) else "-" for a, b in pairs))
            self.check(first ^ second, "".join("+" if a != b else "-" for a, b in pairs))
            self.check(~first, "".join("+" if a == "-" else "-" for a in one))
            self.assertTrue(~~first == first and first & first == first and first | ~first == Mask.every())

    def test_more_than_six_marks(self):
        both = Mask("", "+----") & Mask("", "+-----")
        self.assertEqual((both.start, both.loop), ("", "+" + "-" * 29))
        self.fails(BadMask, {"part": "loop"}, Mask.read, str(both))
        both = Mask("------", "+") & Mask("", "+---")
        self.assertEqual((both.start, both.loop), ("-----", "---+"))
        both = Mask("----+-", "-") | Mask("", "+----")
        self.assertEqual(str(both), "+---+(+----)")
        self.assertEqual(str(~both), "-+++-(-++++)")

    def test_results_are_passed_on(self):
        third = Mask("", "+--") ^ Mask("", "+---") ^ Mask("", "+----")
        self.assertEqual(len(third.loop), 60)
        self.check(third, "".join("+" if (at % 3 == 0) ^ (at % 4 == 0) ^ (at % 5 == 0) else "-" for at in range(200)))
        self.assertTrue(third ^ third == Mask.none())
        self.assertTrue(third ^ Mask("", "+----") == Mask("", "+--") ^ Mask("", "+---"))
        late = Mask("++++++", "-") & ~(Mask("", "+--") ^ Mask("", "+---"))
        self.assertEqual(str(late), "+++--+(-)")

    def test_nothing_changes(self):
        first, second = Mask("+", "+-"), Mask("-", "+--")
        first & second, first | second, first ^ second, ~first, masks_apart(first, second)
        self.assertEqual([str(first), str(second)], ["+(+-)", "(-+-)"])


class ApartTest(Checked):
    def test_the_least_index(self):
        rng = random.Random(520)
        for _ in range(300):
            first, second = random_mask(rng, 4), random_mask(rng, 4)
            unlike = [at for at in range(60) if first[at] != second[at]]
            self.assertEqual(masks_apart(first, second), unlike[0] if unlike else None)

    def test_far_behind(self):
        self.assertEqual(masks_apart(Mask("", "-----+"), Mask("", "-")), 5)
        self.assertEqual(masks_apart(Mask("------", "-----+"), Mask.none()), 11)
        self.assertEqual(masks_apart(Mask("++++++", "+++++-"), Mask.every()), 11)
        one = Mask("", "+-----") & Mask("", "-+---")
        self.assertEqual(masks_apart(one, Mask.none()), 6)
        # Both begin with the same marks until the greater loop comes round.
        first, second = Mask("", "++-++-"), Mask("", "++-++")
        self.assertEqual(masks_apart(first, second), 5)
        closed = ~(Mask("", "+-----") & Mask("", "----+") & Mask("", "-+"))
        self.assertIsNone(masks_apart(closed, Mask.every()))
        seldom = Mask("", "----+") & Mask("", "--+") & Mask("", "---+")
        self.assertEqual(masks_apart(seldom, Mask.none()), 59)

    def test_equal_masks(self):
        self.assertIsNone(masks_apart(Mask("+-", "+-+-"), Mask("", "+-")))
        self.assertIsNone(masks_apart(Mask.none(), Mask("--", "--")))
        self.assertEqual(masks_apart(Mask.none(), Mask.every()), 0)


class WrittenFormTest(Checked):
    def test_str_and_read(self):
        self.assertEqual(str(Mask("-", "+-")), "(-+)")
        self.assertEqual(str(Mask("--", "+-")), "-(-+)")
        self.assertEqual(str(Mask("+", "+-")), "+(+-)")
        for start in texts(0, 4):
            for loop in texts(1, 4):
                mask = Mask.read(start + "(" + loop + ")")
                self.assertTrue(mask == Mask(start, loop))
                self.assertEqual(str(mask), mask.start + "(" + mask.loop + ")")
                self.assertTrue(Mask.read(str(mask)) == mask)

    def test_parentheses_missing_doubled_or_misplaced(self):
        for text in ("", "+", "(", ")", "(+", "+)", "+-", ")+(", ")(", "((+)", "(+))", "((+))", "(+)(+)", "(+)-",
                     "(+) ", "+)(", "+)-(", "(+-(", ")+)", "x", "(+)x", "+(-)(", ")(+)", "+)(-)", "((", "))",
                     "x(+", "+++++++", "(+)\n", "(x", "x)"):
            self.fails(BadMask, {"part": "text"}, Mask.read, text)

    def test_the_errors_of_the_class(self):
        for text in ("x(+)", " (+)", "+++++++(+)", "x()", "x(x)", "+-+-+-+()"):
            self.fails(BadMask, {"part": "start"}, Mask.read, text)
        for text in ("()", "+()", "(x)", "+( )", "(+++++++)", "-(+ )"):
            self.fails(BadMask, {"part": "loop"}, Mask.read, text)

    def test_every_and_none(self):
        self.assertEqual([str(Mask.every()), str(Mask.none())], ["(+)", "(-)"])
        self.assertEqual(Mask.every().marks(3) + Mask.none().marks(3), "+++---")


class MenuTest(Checked):
    def test_all_different_masks_in_order(self):
        for starts in range(3):
            for loops in range(1, 4):
                menu = Mask.menu(starts, loops)
                forms = [(mask.start, mask.loop) for mask in menu]
                known = {
                    (mask.start, mask.loop)
                    for mask in (Mask(start, loop) for start in texts(0, 5) for loop in texts(1, 6))
                    if len(mask.start) <= starts and len(mask.loop) <= loops
                }
                self.assertEqual(set(forms), known)
                self.assertEqual(
                    forms, sorted(known, key=lambda form: (len(form[1]), form[1], len(form[0]), form[0]))
                )
                self.assertIs(menu.__class__, list)

    def test_known_menus(self):
        self.assertEqual([str(mask) for mask in Mask.menu(0, 1)], ["(+)", "(-)"])
        self.assertEqual([str(mask) for mask in Mask.menu(1, 2)],
                         ["(+)", "-(+)", "(-)", "+(-)", "(+-)", "+(+-)", "(-+)", "-(-+)"])
        self.assertEqual([len(Mask.menu(starts, 3)) for starts in range(3)], [10, 20, 40])

    def test_errors_in_their_order(self):
        for starts in (-1, 3, FAR, -FAR):
            self.fails(BadCount, {"count": starts}, Mask.menu, starts, 0)
            self.fails(BadCount, {"count": starts}, Mask.menu, starts, 1)
        for loops in (0, 4, -1, FAR, -FAR):
            self.fails(BadCount, {"count": loops}, Mask.menu, 2, loops)

    def test_the_list_is_new(self):
        Mask.menu(0, 1).append(None)
        self.assertEqual(len(Mask.menu(0, 1)), 2)

    def test_the_example_of_the_interface(self):
        self.assertEqual(
            [str(Mask.read("+-(+-+-)")), len(Mask.menu(0, 2)), str(Mask.menu(0, 2)[2])], ["(+-)", 4, "(+-)"]
        )

    def test_the_loop_of_a_result_is_a_divisor_of_a_common_multiple(self):
        rng = random.Random(530)
        for _ in range(100):
            first, second = random_mask(rng), random_mask(rng)
            self.assertEqual(math.lcm(len(first.loop), len(second.loop)) % len((first ^ second).loop), 0)
