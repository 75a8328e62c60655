"""Points 78 to 81: cases, sheets, facts and questions; with point 82, which facts show it."""

import random
import unittest

from galloon.bales import Bale
from galloon.cases import Case
from galloon.errors import (
    BadIndex,
    BadName,
    BadRow,
    BadStrip,
    NoWorld,
    TakenName,
    TooMany,
    UnknownFact,
    UnknownLetter,
    UnknownSheet,
    UnknownWorld,
    UnlikeSchemes,
)
from galloon.halls import Hall, Hidden
from galloon.masks import Mask
from galloon.paints import Paint
from galloon.passes import FreePass, Gate, Pass, Stamp, Turn, mask_menu
from galloon.schemes import Scheme
from galloon.shapes import Cut, Mirror
from galloon.workshops import Workshop
from tests.case_model import Model, change_case, check_case, check_more, refused
from tests.helpers import FAR, ONE, SCHEMES, Checked
from tests.makers import plans, random_hall
from tests.test_passes import random_strip

TWO = Scheme(2, 2)
EVERY = Bale.every(ONE)
NONE = Bale.none(ONE)
SWAP = Paint(ONE, ["10"])
TURN, BACK, STILL, FLIP, CUT = Turn(ONE, 1), Turn(ONE, -1), Turn(ONE, 0), Mirror(ONE), Cut(ONE, 1, 0)
MENU = Hidden(mask_menu(SWAP, [Mask.every(), Mask.read("+(-)"), Mask.read("(+-)"), Mask.none()]))
KINDS = ("pass", "stamp", "turn", "once", "free", "gate", "mirror", "cut", "border", "sweep", "print")
NAMES = ("a", "sheet", "zzzzzzzz", "bo")


def small_hall():
    return Hall(ONE, H=MENU, T=Hidden([TURN, BACK]), F=FLIP, C=CUT)


def some_strips(rng, scheme):
    """A bale of a few short strips, or of all that are at most as long as two or three columns."""
    if rng.random() < 0.3:
        return Bale.shaped(scheme, rng.choice((".?.?", "...", "..", ".a.?")))
    return Bale.listed(scheme, [random_strip(rng, scheme, 1, 4) for _ in range(rng.randint(1, 6))])


def seen_strips(rng, scheme):
    """A bale for a fact, which may be infinite."""
    column, other = rng.choice(scheme.columns), rng.choice(scheme.columns)
    choices = (
        Bale.showing(scheme, column, rng.randrange(3)), Bale.showing(scheme, column, rng.randrange(2), from_end=True),
        ~Bale.showing(scheme, column, rng.randrange(3)), Bale.every(scheme), ~Bale.listed(scheme, [random_strip(rng, scheme, 0, 3)]),
        Bale.shaped(scheme, f".*{column}.*"), Bale.shaped(scheme, f"({column}|{other})*"), some_strips(rng, scheme),
    )
    return rng.choice(choices)


def random_change(rng, model):
    """A change that may be asked of a case with this model; it may be refused as no world would be left."""
    scheme, letters = model.hall.scheme, model.hall.letters()
    free = [name for name in NAMES if name not in model.sheets]
    words = ["lay"] * 2 if free else []
    if model.sheets:
        words += ["work"] * 3 + ["see"] * 3 + ["recall"]
    if model.hidden:
        words += ["among", "alike"]
    if model.facts:
        words += ["withdraw"]
    word = rng.choice(words + ["can"])
    if word == "lay":
        return ("lay", rng.choice(free), some_strips(rng, scheme))
    if word == "work":
        name = rng.choice(sorted(model.sheets))
        return ("work", name, "".join(rng.choice(letters) for _ in range(min(rng.randrange(3), 8 - len(model.sheets[name][1])))))
    if word in ("see", "recall"):
        return (word, rng.choice(sorted(model.sheets)), seen_strips(rng, scheme))
    if word == "among":
        letter = rng.choice(model.hidden)
        return ("among", letter, [rng.randrange(len(model.hall[letter])) for _ in range(rng.randint(1, 3))])
    if word == "alike":
        return ("alike", rng.choice(model.hidden), rng.choice(model.hidden), rng.random() < 0.5)
    if word == "withdraw":
        return ("withdraw", rng.choice(sorted(model.facts)))
    before, after = random_strip(rng, scheme, 0, 3), random_strip(rng, scheme, 0, 3)
    return ("can", rng.choice(plans(letters, 2)), before, after, rng.random() < 0.7)


def random_cases(seed, many, steps):
    """Cases after random changes, with their models; with each one whether the last change was refused."""
    rng = random.Random(seed)
    for _ in range(many):
        scheme = rng.choice(SCHEMES[:3])
        hall = random_hall(rng, scheme, KINDS, 3, 0.7, 3)
        case, model = Case(hall), Model(hall)
        for _ in range(rng.randint(1, steps)):
            change = random_change(rng, model)
            was = model
            after = model.change(*change)
            model = model if after is None else after
            yield rng, case, was, model, change, after is None


class StoriesTest(Checked):
    def test_plain_trying(self):
        many = 0
        for rng, case, was, model, change, is_refused in random_cases(1800, 150, 12):
            failed, result = refused(change_case, case, *change)
            self.assertEqual(failed, is_refused, change)
            if failed:
                self.assertIs(result.__class__, NoWorld)
                many += 1
            elif change[0] in ("lay", "work", "withdraw"):
                self.assertIsNone(result)
            else:
                self.assertEqual(result, was.number)
            check_case(self, case, model)
            if rng.random() < 0.3:
                check_more(self, rng, case, model, seen_strips(rng, case.scheme))
        self.assertGreater(many, 20)

    def test_hidden_tools_at_several_places_and_in_several_plans(self):
        case = Case(small_hall())
        case.lay("one", Bale.listed(ONE, ["aab"]))
        case.lay("two", Bale.shaped(ONE, "..a"))
        case.work("one", "TT")
        case.work("two", "HFH")
        case.see("one", Bale.listed(ONE, ["aba"]))
        self.assertEqual(case.indexes("T"), [1])
        case.see("two", Bale.showing(ONE, "a", 0))
        # Of 'xya' the mask (+-) makes first x'ya' and then, mirrored, 'ayx'.
        model = Model(small_hall())
        for change in (
            ("lay", "one", Bale.listed(ONE, ["aab"])), ("lay", "two", Bale.shaped(ONE, "..a")), ("work", "one", "TT"),
            ("work", "two", "HFH"), ("see", "one", Bale.listed(ONE, ["aba"])), ("see", "two", Bale.showing(ONE, "a", 0)),
        ):
            model = model.change(*change)
        check_case(self, case, model)
        case.work("two", "T")
        case.see("two", Bale.showing(ONE, "b", 0))
        model = model.change("work", "two", "T").change("see", "two", Bale.showing(ONE, "b", 0))
        check_case(self, case, model)

    def test_facts_before_between_and_behind_the_plans(self):
        case = Case(Hall(ONE, H=MENU))
        case.lay("s", EVERY)
        self.assertEqual(case.see("s", Bale.shaped(ONE, "..a")), 0)
        case.work("s", "H")
        self.assertEqual(case.see("s", Bale.shaped(ONE, "b.*")), 1)
        case.work("s", "H")
        self.assertEqual(case.see("s", Bale.shaped(ONE, ".b.")), 2)
        self.assertEqual(case.recall("s", Bale.shaped(ONE, "a.*")), 3)
        self.assertEqual((case.worlds_left(), list(case.origin("s").strips(5))), ([(0,), (1,), (2,)], ["aba"]))
        self.assertEqual(list(case.now("s").strips(5)), ["aba"])
        self.assertEqual(case.facts(), [(0, "see", "s"), (1, "see", "s"), (2, "see", "s"), (3, "recall", "s")])
        case.work("s", "H")
        self.assertEqual(list(case.now("s").strips(5)), ["bab", "bba", "bbb"])
        case.see("s", Bale.listed(ONE, ["bbb", "abb"]))
        self.assertEqual((case.worlds_left(), case.many), ([(2,)], 1))

    def test_infinite_bales(self):
        case = Case(Hall(ONE, H=Hidden([TURN, STILL]), C=Cut(ONE, 1, 1)))
        case.lay("s", Bale.shaped(ONE, "ab*"))
        case.work("s", "HC")
        self.assertEqual((case.now("s"), case.origin("s")), (Bale.shaped(ONE, "b*"), Bale.shaped(ONE, "abb*")))
        case.see("s", Bale.shaped(ONE, "bb(bb)*"))
        self.assertEqual(case.origin("s"), Bale.shaped(ONE, "abbb(bb)*"))
        self.assertEqual(case.origin_of("s", Bale.shaped(ONE, "(....)*")), Bale.shaped(ONE, "a(bbbb)(bbbb)*b"))
        self.assertEqual((case.loss("s"), case.many), (None, 2))
        case.lay("t", EVERY)
        case.work("t", "CC")
        self.assertEqual(case.loss("t"), ("", "aaaa", "aaab"))
        case.recall("t", Bale.shaped(ONE, "(aaba)*"))
        self.assertEqual((case.loss("t"), case.now("t")), (None, Bale.shaped(ONE, "|ba(aaba)*aa")))

    def test_loss_of_two_worlds(self):
        case = Case(Hall(ONE, H=Hidden([TURN, BACK]), F=FLIP))
        case.lay("s", Bale.listed(ONE, ["aab", "baa"]))
        case.work("s", "H")
        self.assertEqual(case.loss("s"), ("aba", "aab", "baa"))
        case.among("H", [0])
        self.assertIsNone(case.loss("s"))
        case.undo()
        case.work("s", "F")
        self.assertEqual(case.loss("s"), ("aba", "aab", "baa"))
        case.lay("t", Bale.listed(ONE, ["aaab", "abaa", "baaa"]))
        case.work("t", "HF")
        # What the loom says comes in another order than what is mirrored.
        self.assertEqual(case.loss("t"), ("aaab", "aaab", "abaa"))
        self.assertEqual(list(case.origin_of("t", Bale.listed(ONE, ["aaab"])).strips(9)), ["aaab", "abaa"])

    def test_loss_where_facts_leave_fewer_stories(self):
        free = FreePass(SWAP)
        for plans_and_facts, known in (
            ([("work", "X"), ("see", Bale.shaped(ONE, "b.*"))], ("b", "a", "b")),
            ([("work", "X"), ("see", Bale.shaped(ONE, "b.*|a")), ("recall", Bale.shaped(ONE, "a|bb|ba"))], ("ba", "ba", "bb")),
            ([("work", "X"), ("see", Bale.shaped(ONE, "ab|b")), ("work", "G")], ("b", "a", "b")),
            ([("work", "G"), ("see", Bale.shaped(ONE, "..")), ("work", "XF"), ("see", Bale.shaped(ONE, "ab"))], ("ab", "ab", "bb")),
            ([("work", "X"), ("see", Bale.listed(ONE, ["aa", "a"])), ("work", "H"), ("see", Bale.shaped(ONE, "b*"))], ("b", "a", "b")),
        ):
            hall = Hall(ONE, X=free, G=Gate(ONE, ".?b"), F=FLIP, H=Hidden([STILL, Pass(SWAP, Mask.every())]))
            case, model = Case(hall), Model(hall)
            for change in [("lay", Bale.shaped(ONE, "..?"))] + plans_and_facts:
                change_case(case, change[0], "s", *change[1:])
                model = model.change(change[0], "s", *change[1:])
            self.assertEqual((case.loss("s"), model.loss("s")), (known, known))
            check_case(self, case, model)

    def test_a_sheet_that_goes_through_the_empty_plan(self):
        case = Case(small_hall())
        case.lay("s", EVERY)
        for plan in ("", "", "H", ""):
            self.assertIsNone(case.work("s", plan))
        self.assertEqual((case.steps("s"), case.past, case.now("s")), ("H", 5, EVERY))

    def test_exactly_eight_letters_and_nine(self):
        case = Case(small_hall())
        case.lay("s", Bale.listed(ONE, ["aaaaaaaa"]))
        case.work("s", "HFTH")
        for plan in ("HFTHF", "F" * 9, "FFFFF"):
            self.fails(TooMany, {"most": 8}, case.work, "s", plan)
        case.work("s", "HFTC")
        self.assertEqual((case.steps("s"), len(case.now("s").first())), ("HFTHHFTC", 7))
        self.fails(TooMany, {"most": 8}, case.work, "s", "F")
        self.fails(UnknownLetter, {"letter": "X", "place": 1}, case.work, "s", "FX")
        case.work("s", "")
        case.see("s", Bale.showing(ONE, "a", 2))

    def test_later_changes_of_the_hall(self):
        hall = small_hall()
        case, model = Case(hall), Model(small_hall())
        hall.remove("F")
        hall["H"] = STILL
        hall.put("A", FLIP)
        hall.limit = 2
        for change in (("lay", "s", Bale.shaped(ONE, "..?.?")), ("work", "s", "HF"), ("see", "s", Bale.showing(ONE, "a", 0))):
            change_case(case, *change)
            model = model.change(*change)
        check_case(self, case, model)
        self.assertEqual(case.many, 8)
        self.fails(UnknownLetter, {"letter": "A", "place": 0}, case.work, "s", "A")

    def test_objects_of_a_case(self):
        case = Case(small_hall())
        self.assertEqual((case.scheme, len(case), case.many, case.past, case.future), (ONE, 0, 8, 0, 0))
        case.lay("s", EVERY)
        for found in (case.worlds_left(), case.indexes("H"), case.sheets(), case.facts()):
            found.append(9)
        self.assertEqual((len(case.worlds_left()), case.indexes("H"), case.sheets(), case.facts()), (8, [0, 1, 2, 3], ["s"], []))
        for name in ("many", "past", "future"):
            with self.assertRaises(AttributeError):
                setattr(case, name, 1)
        indexes = [0, 1]
        case.among("H", indexes)
        indexes.append(2)
        indexes[0] = 3
        self.assertEqual(case.indexes("H"), [0, 1])


class LayAndWorkTest(Checked):
    def test_names(self):
        case = Case(small_hall())
        for name in ("", "A", "ninechars", "a1", "a b", "sheet_", "\u00e4", "S", "abcdefgh "):
            self.fails(BadName, {"name": name}, case.lay, name, NONE)
        for name in ("a", "abcdefgh", "zz"):
            self.assertIsNone(case.lay(name, EVERY))
        self.assertEqual(case.sheets(), ["a", "abcdefgh", "zz"])

    def test_errors_of_lay_in_their_order(self):
        case = Case(small_hall())
        for name in ("d", "c", "b"):
            case.lay(name, EVERY)
        self.fails(NoWorld, {}, case.lay, "a", NONE)
        self.fails(TakenName, {"name": "c"}, case.lay, "c", NONE)
        case.lay("a", EVERY)
        self.fails(TakenName, {"name": "c"}, case.lay, "c", NONE)
        self.fails(TooMany, {"most": 4}, case.lay, "e", NONE)
        self.fails(TooMany, {"most": 4}, case.lay, "e", EVERY)
        self.fails(BadName, {"name": "E"}, case.lay, "E", NONE)
        for name in ("E", "c", "e"):
            self.fails(UnlikeSchemes, {}, case.lay, name, Bale.none(TWO))
        self.assertEqual((case.sheets(), case.past), (["a", "b", "c", "d"], 4))

    def test_errors_of_work_in_their_order(self):
        case = Case(Hall(ONE, G=Gate(ONE, "a*"), N=Gate(ONE, "b+"), C=CUT))
        case.lay("s", EVERY)
        self.fails(UnknownSheet, {"name": "t"}, case.work, "t", "?" * 9)
        self.fails(UnknownLetter, {"letter": "?", "place": 0}, case.work, "s", "?" * 9)
        self.fails(UnknownLetter, {"letter": "g", "place": 8}, case.work, "s", "GGGGGGGGg")
        self.fails(TooMany, {"most": 8}, case.work, "s", "GN" * 5)
        self.fails(NoWorld, {}, case.work, "s", "GN")
        self.assertEqual((case.steps("s"), case.past, case.now("s")), ("", 1, EVERY))
        case.work("s", "G")
        self.fails(NoWorld, {}, case.work, "s", "CN")
        case.see("s", Bale.listed(ONE, ["aa"]))
        self.fails(NoWorld, {}, case.work, "s", "CCC")
        self.assertEqual((case.steps("s"), case.past), ("G", 3))
        self.assertEqual(case.see("s", EVERY), 1)


class FactsTest(Checked):
    def test_errors_of_see_and_recall_in_their_order(self):
        case = Case(small_hall())
        case.lay("s", Bale.shaped(ONE, "a*"))
        for call in (case.see, case.recall):
            self.fails(UnlikeSchemes, {}, call, "t", Bale.none(TWO))
            self.fails(UnknownSheet, {"name": "t"}, call, "t", NONE)
            self.fails(UnknownSheet, {"name": ""}, call, "", NONE)
            self.fails(NoWorld, {}, call, "s", NONE)
            self.fails(NoWorld, {}, call, "s", Bale.shaped(ONE, "a*b"))
        self.assertEqual((len(case), case.past), (0, 1))
        self.assertEqual(case.see("s", Bale.shaped(ONE, "aaa*")), 0)
        self.fails(NoWorld, {}, case.recall, "s", Bale.shaped(ONE, "a"))
        self.assertEqual(case.recall("s", Bale.shaped(ONE, "(aaa)*")), 1)
        self.assertEqual(case.now("s"), Bale.shaped(ONE, "aaa(aaa)*"))

    def test_among(self):
        case = Case(small_hall())
        for letter in ("F", "X", "", "HT", "h"):
            self.fails(UnknownLetter, {"letter": letter, "place": 0}, case.among, letter, [9])
        for indexes, wrong in (([4], 4), ([0, -1, 9], -1), ([3, 3, FAR, 7], FAR), ([0, 4, -1], 4)):
            self.fails(BadIndex, {"at": wrong}, case.among, "H", indexes)
        self.fails(NoWorld, {}, case.among, "H", [])
        self.assertEqual((len(case), case.past, case.many), (0, 0, 8))
        self.assertEqual(case.among("H", [2, 0, 2, 2]), 0)
        self.assertEqual((case.indexes("H"), case.indexes("T"), case.many), ([0, 2], [0, 1], 4))
        self.fails(NoWorld, {}, case.among, "H", [1, 3])
        self.assertEqual(case.among("T", [1]), 1)
        self.assertEqual((case.worlds_left(), case.facts()), ([(0, 1), (2, 1)], [(0, "among", "H"), (1, "among", "T")]))

    def test_alike(self):
        case = Case(small_hall())
        for one, two, wrong in (("F", "X", "F"), ("H", "X", "X"), ("HT", "F", "HT"), ("H", "", ""), ("T", "h", "h")):
            for unlike in (False, True):
                self.fails(UnknownLetter, {"letter": wrong, "place": 0}, case.alike, one, two, unlike=unlike)
        self.fails(NoWorld, {}, case.alike, "H", "H", unlike=True)
        self.assertEqual((case.past, len(case)), (0, 0))
        self.assertEqual(case.alike("H", "H"), 0)
        self.assertEqual(case.many, 8)
        self.assertEqual(case.alike("T", "H"), 1)
        self.assertEqual(case.worlds_left(), [(0, 0), (1, 1)])
        self.fails(NoWorld, {}, case.alike, "H", "T", unlike=True)
        self.assertIsNone(case.withdraw(1))
        self.assertEqual(case.alike("H", "T", unlike=True), 2)
        self.assertEqual(case.worlds_left(), [(0, 1), (1, 0), (2, 0), (2, 1), (3, 0), (3, 1)])
        self.assertEqual(case.facts(), [(0, "alike", "HH"), (2, "alike", "HT")])
        case.alike("T", "T", unlike=False)
        self.assertEqual(case.facts()[-1], (3, "alike", "TT"))

    def test_can(self):
        case = Case(small_hall())
        self.fails(UnknownLetter, {"letter": "?", "place": 0}, case.can, "?" * 9, "?", "!")
        self.fails(TooMany, {"most": 8}, case.can, "H" * 9, "?", "!")
        self.fails(BadStrip, {"text": "?"}, case.can, "H", "?", "!")
        self.fails(BadStrip, {"text": "c"}, case.can, "H", "", "c", never=True)
        for plan, before, after, never in (("", "a", "b", False), ("", "a", "a", True), ("C", "ab", "ab", False), ("FF", "ab", "ab", True)):
            self.fails(NoWorld, {}, case.can, plan, before, after, never=never)
        self.assertEqual((case.past, len(case), case.many), (0, 0, 8))
        self.assertEqual(case.can("", "ab", "ab"), 0)
        self.assertEqual(case.can("HF", "aab", "bbb", never=True), 1)
        self.assertEqual(case.many, 8)
        self.assertEqual(case.can("HF", "aab", "baa", never=True), 2)
        self.assertEqual(case.indexes("H"), [0, 1, 2])
        self.assertEqual(case.can("TFT", "aabbb", "aabbb"[::-1]), 3)
        self.assertEqual(case.can("HH", "aab", "aab"), 4)
        self.assertEqual(case.can("HHHHHHHH", "aab", "aab"), 5)
        self.assertEqual(case.can("TTTTT", "aabb", "abba", never=False), 6)
        self.assertEqual(case.worlds_left(), [(0, 0), (1, 0), (2, 0)])
        self.assertEqual(case.facts()[2:4], [(2, "can", "HF"), (3, "can", "TFT")])
        self.assertEqual((case.facts()[0], len(case)), ((0, "can", ""), 7))

    def test_can_of_very_many_strips(self):
        case = Case(Hall(ONE, X=Hidden([FreePass(SWAP), FreePass(SWAP, gap=1)])))
        self.assertEqual(case.can("X", "a" * 30, "ab" * 15), 0)
        self.assertEqual(case.many, 2)
        self.assertEqual(case.can("X", "a" * 30, "b" * 30, never=True), 1)
        self.assertEqual(case.worlds_left(), [(1,)])

    def test_numbers_of_withdrawn_facts(self):
        case = Case(small_hall())
        case.lay("s", EVERY)
        self.assertEqual([case.see("s", Bale.showing(ONE, "a", at)) for at in range(3)], [0, 1, 2])
        for number in (3, -1, 99, FAR):
            self.fails(UnknownFact, {"number": number}, case.withdraw, number)
        self.assertIsNone(case.withdraw(2))
        self.fails(UnknownFact, {"number": 2}, case.withdraw, 2)
        self.assertEqual(case.among("H", [0]), 3)
        case.withdraw(0)
        case.withdraw(3)
        self.fails(NoWorld, {}, case.see, "s", NONE)
        self.assertEqual(case.recall("s", EVERY), 4)
        self.assertEqual((case.facts(), len(case)), ([(1, "see", "s"), (4, "recall", "s")], 2))
        self.assertEqual(case.now("s"), Bale.showing(ONE, "a", 1))

    def test_no_world_and_nothing_has_changed(self):
        case = Case(small_hall())
        case.lay("s", Bale.listed(ONE, ["aab", "abb"]))
        case.work("s", "HC")
        case.among("H", [0, 1])
        case.undo()
        case.redo()
        was = (case.worlds_left(), case.facts(), case.now("s"), case.past, case.future, case.sheets(), case.steps("s"))
        case.undo()
        case.redo()
        for call in (
            lambda: case.see("s", Bale.listed(ONE, ["a"])), lambda: case.recall("s", Bale.listed(ONE, ["bbb"])),
            lambda: case.among("H", [2, 3]), lambda: case.can("F", "ab", "ab"), lambda: case.work("s", "CCC"),
            lambda: case.lay("t", NONE), lambda: case.alike("H", "H", unlike=True),
        ):
            self.fails(NoWorld, {}, call)
            now = (case.worlds_left(), case.facts(), case.now("s"), case.past, case.future, case.sheets(), case.steps("s"))
            self.assertEqual(now, was)
        self.assertEqual(case.among("H", [1]), 1)


class QuestionsTest(Checked):
    def test_unknown_sheets_and_letters(self):
        case = Case(small_hall())
        case.lay("s", EVERY)
        told = {"name": "t"}
        for call in (
            lambda: case.steps("t"), lambda: case.now("t"), lambda: case.origin("t"), lambda: case.origin_of("t", EVERY),
            lambda: case.sure_spot("t", 9, -1), lambda: case.verdict("t", NONE), lambda: case.loss("t"),
        ):
            self.fails(UnknownSheet, told, call)
        for call in (lambda: case.origin_of("t", Bale.every(TWO)), lambda: case.verdict("t", Bale.none(TWO)),
                     lambda: case.origin_of("s", Bale.every(TWO)), lambda: case.verdict("s", Bale.every(TWO))):
            self.fails(UnlikeSchemes, {}, call)
        for letter in ("F", "X", "", "HT"):
            self.fails(UnknownLetter, {"letter": letter, "place": 0}, case.indexes, letter)

    def test_sure_spots_from_both_ends(self):
        case = Case(Hall(TWO, X=FreePass(Paint(TWO, ["11", "01"]))))
        case.lay("s", Bale.listed(TWO, ["ab", "abd", "bbbb"]))
        for row, at, from_end, spot in (
            (0, 0, False, "0"), (0, 1, False, "0"), (1, 0, False, None), (1, 1, False, "1"), (0, 2, False, None), (1, 2, False, None),
            (1, 0, True, "1"), (0, 0, True, None), (1, 1, True, None), (0, 1, True, "0"), (0, 2, True, None), (0, 3, False, None),
            (0, FAR, False, None), (1, FAR, True, None),
        ):
            self.assertEqual(case.sure_spot("s", row, at, from_end=from_end), spot)
        for row, at, error, told in (
            (2, -1, BadRow, {"row": 2}), (-1, 0, BadRow, {"row": -1}), (FAR, 0, BadRow, {"row": FAR}), (0, -1, BadIndex, {"at": -1}),
            (1, -FAR, BadIndex, {"at": -FAR}),
        ):
            self.fails(error, told, case.sure_spot, "s", row, at)
            self.fails(error, told, case.sure_spot, "s", row, at, from_end=True)
        case.work("s", "X")
        self.assertEqual([case.sure_spot("s", row, 1) for row in (0, 1)], [None, "1"])
        endless = Case(Hall(ONE))
        endless.lay("s", Bale.shaped(ONE, "bab*a"))
        self.assertEqual([endless.sure_spot("s", 0, at) for at in range(4)], ["1", "0", None, None])
        self.assertEqual([endless.sure_spot("s", 0, at, from_end=True) for at in range(4)], ["0", None, None, None])

    def test_sure_spots_of_a_sheet_that_is_hard_to_read_backwards(self):
        # The mirrored strips have a table of more than a million states.
        case = Case(Hall(TWO, H=Hidden([Pass(Paint(TWO, ["01", maps]), Mask.every()) for maps in ("01", "10")])))
        case.lay("s", Bale.showing(TWO, "b", 20))
        case.work("s", "H")
        case.see("s", Bale.showing(TWO, "cb", 3, from_end=True))
        for row, at, from_end, spot in (
            (0, 20, False, "0"), (1, 20, False, None), (0, 19, False, None), (0, 21, False, None),
            (0, 4, True, "1"), (1, 4, True, "0"), (0, 3, True, "0"), (1, 3, True, "1"), (0, 2, True, None), (1, 5, True, None),
            (0, 20, True, None), (0, 21, True, None), (1, FAR, True, None),
        ):
            self.assertEqual(case.sure_spot("s", row, at, from_end=from_end), spot)

    def test_sure_spots_in_worlds_that_are_hard_to_join(self):
        # In each world the number of columns before the last one has other divisors.
        gates = [Gate(ONE, f"({'a' * many})*b") for many in (5, 7, 8, 9, 11)]
        case = Case(Hall(ONE, H=Hidden(gates)))
        ring = 13 * 17
        rows = [[(at + 1) % ring] * 2 for at in range(ring)]
        case.lay("s", Bale(ONE, rows, [at == 1 for at in range(ring)]))
        case.work("s", "H")
        self.assertEqual(case.many, 5)
        for from_end, spot in ((False, None), (True, "1")):
            self.assertEqual(case.sure_spot("s", 0, 0, from_end=from_end), spot)
            self.assertIsNone(case.sure_spot("s", 0, 1, from_end=from_end))
        case.see("s", ~Bale.listed(ONE, ["b"]))
        for at, from_end, spot in ((0, False, "0"), (0, True, "1"), (1, True, "0"), (5 * ring, False, None), (5 * ring, True, "0")):
            self.assertEqual(case.sure_spot("s", 0, at, from_end=from_end), spot)
        self.assertIsNone(case.sure_spot("s", 0, 5 * ring + 1, from_end=True))

    def test_verdicts(self):
        case = Case(small_hall())
        case.lay("s", Bale.shaped(ONE, "a+"))
        case.work("s", "H")
        for bale, word in (
            (EVERY, "always"), (NONE, "never"), (Bale.shaped(ONE, "..*"), "always"), (Bale.shaped(ONE, "a*"), "sometimes"),
            (Bale.listed(ONE, [""]), "never"), (Bale.shaped(ONE, "a+|b+|(ba)+b?|ba*"), "always"), (Bale.shaped(ONE, "ab.*"), "never"),
        ):
            self.assertEqual(case.verdict("s", bale), word)


class WhichFactsTest(Checked):
    def test_plain_trying(self):
        for rng, case, _, model, change, _ in random_cases(1810, 80, 14):
            refused(change_case, case, *change)
            if model.facts and rng.random() < 0.6:
                check_more(self, rng, case, model, EVERY if case.scheme == ONE else Bale.every(case.scheme))

    def test_known(self):
        case = Case(Hall(ONE, H=MENU))
        case.lay("s", Bale.listed(ONE, ["aaa"]))
        case.work("s", "H")
        self.assertEqual((case.refuting((0,)), case.grounds("H", 0)), (None, None))
        case.see("s", Bale.showing(ONE, "b", 0))
        case.see("s", Bale.showing(ONE, "a", 2))
        case.among("H", [0, 1, 3])
        case.see("s", Bale.listed(ONE, ["bbb", "baa"]))
        self.assertEqual(case.worlds_left(), [(1,)])
        for index, numbers in ((0, [1]), (1, None), (2, [1]), (3, [0])):
            self.assertEqual((case.refuting((index,)), case.grounds("H", index)), (numbers, numbers))
        case.withdraw(1)
        for index, numbers in ((0, None), (2, [2]), (3, [0])):
            self.assertEqual((case.refuting((index,)), case.grounds("H", index)), (numbers, numbers))

    def test_no_fact_is_needed(self):
        case = Case(Hall(ONE, H=Hidden([Gate(ONE, "a*"), Gate(ONE, "b*"), STILL])))
        case.lay("s", Bale.shaped(ONE, "a+"))
        case.see("s", EVERY)
        case.work("s", "H")
        self.assertEqual((case.refuting((1,)), case.grounds("H", 1)), ([], []))
        self.assertEqual((case.refuting((0,)), case.grounds("H", 0)), (None, None))

    def test_several_facts_of_several_sheets(self):
        # Neither fact alone shows it: the world needs both strips to be unlike.
        case = Case(Hall(ONE, H=Hidden([STILL, Stamp(ONE, "a", "b")]), G=Hidden([STILL, STILL])))
        case.lay("s", Bale.shaped(ONE, "."))
        case.lay("t", Bale.shaped(ONE, "."))
        case.alike("H", "G")
        case.see("t", EVERY)
        case.recall("s", Bale.listed(ONE, ["a"]))
        case.work("s", "H")
        case.see("s", Bale.listed(ONE, ["b"]))
        case.recall("t", EVERY)
        case.recall("s", Bale.listed(ONE, ["a", ""]))
        self.assertEqual(case.worlds_left(), [(1, 1)])
        self.assertEqual((case.refuting((0, 0)), case.grounds("H", 0)), ([2, 3], [2, 3]))
        # In the world (0, 1) fact 0 is enough, but the index 0 of G stands in (0, 0) and (0, 1).
        self.assertEqual((case.refuting((0, 1)), case.refuting((1, 0)), case.grounds("G", 0)), ([0], [0], [0, 2, 3]))

    def test_errors_in_their_order(self):
        case = Case(small_hall())
        case.lay("s", EVERY)
        for _ in range(8):
            case.see("s", EVERY)
        self.assertEqual((case.refuting((0, 0)), case.grounds("H", 0), len(case)), (None, None, 8))
        for many in (8, 9):
            for world in ((), (0,), (4, 0), (0, -1), (0, 0, 0)):
                self.fails(UnknownWorld, {"world": world}, case.refuting, world)
            for letter in ("F", "X", "", "HT"):
                self.fails(UnknownLetter, {"letter": letter, "place": 0}, case.grounds, letter, 99)
            for index in (-1, 4, FAR):
                self.fails(BadIndex, {"at": index}, case.grounds, "H", index)
            if many == 8:
                case.among("H", [1])
        self.fails(TooMany, {"most": 8}, case.refuting, (0, 0))
        self.fails(TooMany, {"most": 8}, case.refuting, (1, 0))
        self.fails(TooMany, {"most": 8}, case.grounds, "H", 0)
        self.fails(TooMany, {"most": 8}, case.grounds, "H", 1)
        case.withdraw(3)
        self.assertEqual((case.refuting((0, 0)), case.grounds("H", 0), case.grounds("H", 1)), ([8], [8], None))

    def test_eight_facts_that_are_all_needed(self):
        # Each fact leaves out one strip of the nine.
        strips = ["b" * many for many in range(1, 10)]
        case = Case(Hall(ONE, H=Hidden([Gate(ONE, "bbb*"), STILL])))
        case.lay("s", Bale.listed(ONE, strips))
        case.work("s", "H")
        for strip in strips[1:]:
            case.see("s", ~Bale.listed(ONE, [strip]))
        self.assertEqual((case.worlds_left(), case.refuting((0,)), case.grounds("H", 0)), ([(1,)], list(range(8)), list(range(8))))


class WorkshopsAsToolsTest(Checked):
    def test_hidden_workshops(self):
        orders = [Workshop.of(ONE, TURN, CUT), Workshop.of(ONE, CUT, TURN), Workshop.of(ONE, Workshop(ONE, []), CUT)]
        hall = Hall(ONE, W=Hidden(orders), F=FLIP)
        case, model = Case(hall), Model(hall)
        for change in (
            ("lay", "s", Bale.shaped(ONE, "....?")), ("work", "s", "WF"), ("see", "s", Bale.showing(ONE, "ab", 0)), ("work", "s", "W"),
            ("recall", "s", Bale.showing(ONE, "b", 1)),
        ):
            change_case(case, *change)
            model = model.change(*change)
            check_case(self, case, model)
        check_more(self, random.Random(1), case, model, Bale.shaped(ONE, "a.*"))


if __name__ == "__main__":
    unittest.main()
