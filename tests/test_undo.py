"""Points 83 and 84: undo, redo, twins, and attempts of several requests."""

import random
import unittest

from galloon.attempts import attempt
from galloon.bales import Bale
from galloon.cases import Case
from galloon.errors import (
    BadIndex,
    BadName,
    NothingToRedo,
    NothingToUndo,
    NoWorld,
    Refused,
    TakenName,
    TooMany,
    UnknownFact,
    UnknownLetter,
    UnknownSheet,
    UnlikeSchemes,
)
from galloon.halls import Hall, Hidden
from galloon.masks import Mask
from galloon.paints import Paint
from galloon.passes import Turn, mask_menu
from galloon.schemes import Scheme
from galloon.shapes import Cut, Mirror
from tests.case_model import LONG, Model, change_case, check_case, refused
from tests.helpers import ONE, SCHEMES, Checked
from tests.makers import random_hall
from tests.test_cases import KINDS, random_change

TWO = Scheme(2, 2)
EVERY, NONE = Bale.every(ONE), Bale.none(ONE)
MENU = Hidden(mask_menu(Paint(ONE, ["10"]), [Mask.every(), Mask.read("+(-)"), Mask.none()]))


def small_hall():
    return Hall(ONE, H=MENU, F=Mirror(ONE), C=Cut(ONE, 1, 0), T=Turn(ONE, 1))


def told_by(case):
    """All that can be seen of a case, its numbers and its history included."""
    names = case.sheets()
    return (
        case.worlds_left(), case.facts(), names, [case.steps(name) for name in names], case.past, case.future, case.many, len(case),
        [list(case.now(name).of_length(3).strips(LONG)) for name in names],
        [list(case.origin(name).of_length(3).strips(LONG)) for name in names],
    )


class History:
    """A case, and the models before its first change and after each one."""

    def __init__(self, hall):
        self.case = Case(hall)
        self.models = [Model(hall)]
        self.at = 0

    def model(self):
        return self.models[self.at]

    def step(self, test, rng):
        """One change, an undo or a redo; it may be refused."""
        choice = rng.random()
        if choice < 0.2:
            self.go(test, self.case.undo, -1, NothingToUndo)
        elif choice < 0.4:
            self.go(test, self.case.redo, 1, NothingToRedo)
        else:
            change = random_change(rng, self.model())
            after = self.model().change(*change)
            failed, result = refused(change_case, self.case, *change)
            test.assertEqual(failed, after is None)
            if not failed:
                if change[0] in ("see", "recall", "among", "alike", "can"):
                    test.assertEqual(result, self.model().number)
                self.models[self.at + 1:] = [after]
                self.at += 1
        test.assertEqual((self.case.past, self.case.future), (self.at, len(self.models) - 1 - self.at))
        check_case(test, self.case, self.model())

    def go(self, test, call, by, error):
        if 0 <= self.at + by < len(self.models):
            test.assertIsNone(call())
            self.at += by
        else:
            test.fails(error, {}, call)

    def twin(self):
        other = History(self.model().hall)
        other.case, other.models, other.at = self.case.twin(), list(self.models), self.at
        return other


class UndoTest(Checked):
    def test_long_mixed_histories(self):
        rng = random.Random(1900)
        for _ in range(25):
            scheme = rng.choice(SCHEMES[:3])
            history = History(random_hall(rng, scheme, KINDS, 3, 0.7, 3))
            for _ in range(25):
                history.step(self, rng)

    def test_undo_and_redo_of_each_kind_of_change(self):
        case = Case(small_hall())
        changes = (
            ("lay", "s", Bale.shaped(ONE, "a+")), ("work", "s", "HC"), ("work", "s", ""), ("see", "s", Bale.showing(ONE, "a", 1)),
            ("recall", "s", Bale.shaped(ONE, "(aa)*")), ("among", "H", [1, 2]), ("alike", "H", "H", False),
            ("can", "HF", "aab", "baa", False), ("withdraw", 1), ("lay", "t", EVERY), ("withdraw", 3),
        )
        states = [told_by(case)]
        for change in changes:
            change_case(case, *change)
            states.append(told_by(case))
        many = len(changes)

        def at(place):
            state = states[place]
            return state[:4] + (place, many - place) + state[6:]
        for _ in range(2):
            for place in range(many, 0, -1):
                self.assertEqual(told_by(case), at(place))
                self.assertIsNone(case.undo())
            self.assertEqual(told_by(case), at(0))
            self.fails(NothingToUndo, {}, case.undo)
            for place in range(many):
                self.assertEqual(told_by(case), at(place))
                self.assertIsNone(case.redo())
            self.fails(NothingToRedo, {}, case.redo)

    def test_numbers_after_undo_and_redo(self):
        case = Case(small_hall())
        case.lay("s", EVERY)
        self.assertEqual((case.see("s", EVERY), case.recall("s", EVERY), case.among("H", [0])), (0, 1, 2))
        case.undo()
        case.undo()
        self.assertEqual(case.facts(), [(0, "see", "s")])
        case.redo()
        self.assertEqual(case.facts(), [(0, "see", "s"), (1, "recall", "s")])
        self.assertEqual(case.alike("H", "H"), 2)
        self.assertEqual(case.facts()[-1], (2, "alike", "HH"))
        case.withdraw(0)
        case.withdraw(2)
        self.assertEqual(case.facts(), [(1, "recall", "s")])
        self.assertEqual(case.see("s", EVERY), 3)
        for _ in range(3):
            case.undo()
        self.assertEqual(case.facts(), [(0, "see", "s"), (1, "recall", "s"), (2, "alike", "HH")])
        case.redo()
        self.assertEqual((case.facts(), case.see("s", EVERY)), ([(1, "recall", "s"), (2, "alike", "HH")], 3))

    def test_new_changes_discard_what_was_taken_back(self):
        case = Case(small_hall())
        case.lay("s", EVERY)
        case.work("s", "H")
        case.work("s", "F")
        case.undo()
        case.undo()
        self.assertEqual((case.past, case.future), (1, 2))
        case.work("s", "")
        self.assertEqual((case.past, case.future, case.steps("s")), (2, 0, ""))
        self.fails(NothingToRedo, {}, case.redo)

    def test_refused_calls_do_not_discard_what_was_taken_back(self):
        case = Case(small_hall())
        case.lay("s", Bale.listed(ONE, ["aab"]))
        case.work("s", "H")
        case.see("s", EVERY)
        case.undo()
        case.undo()
        for call in (
            lambda: case.lay("s", EVERY), lambda: case.lay("S", EVERY), lambda: case.work("s", "X"), lambda: case.work("t", "H"),
            lambda: case.work("s", "CCCC"), lambda: case.see("s", NONE), lambda: case.recall("s", NONE), lambda: case.withdraw(0),
            lambda: case.among("H", []), lambda: case.among("H", [7]), lambda: case.alike("H", "H", unlike=True),
            lambda: case.can("C", "a", "a"), lambda: case.see("s", Bale.every(TWO)), lambda: case.now("t"),
        ):
            with self.assertRaises(ValueError):
                call()
            self.assertEqual((case.past, case.future), (1, 2))
        case.redo()
        case.redo()
        self.assertEqual((case.steps("s"), case.facts()), ("H", [(0, "see", "s")]))

    def test_nothing_to_undo_or_redo(self):
        case = Case(small_hall())
        self.fails(NothingToUndo, {}, case.undo)
        self.fails(NothingToRedo, {}, case.redo)
        case.among("H", [0])
        self.fails(NothingToRedo, {}, case.redo)
        case.undo()
        self.fails(NothingToUndo, {}, case.undo)
        self.assertEqual((case.past, case.future, len(case)), (0, 1, 0))


class TwinTest(Checked):
    def test_twins_are_independent_in_both_directions(self):
        rng = random.Random(1910)
        for _ in range(12):
            history = History(random_hall(rng, rng.choice(SCHEMES[:3]), KINDS, 3, 0.7, 3))
            for _ in range(8):
                history.step(self, rng)
            twin = history.twin()
            both = [history, twin, twin.twin()]
            for _ in range(20):
                rng.choice(both).step(self, rng)
                for one in both:
                    self.assertEqual((one.case.past, one.case.future), (one.at, len(one.models) - 1 - one.at))
            for one in both:
                check_case(self, one.case, one.model())

    def test_a_twin_has_the_history(self):
        case = Case(small_hall())
        case.lay("s", EVERY)
        case.among("H", [0, 1])
        case.work("s", "HF")
        case.undo()
        twin = case.twin()
        self.assertIsInstance(twin, Case)
        self.assertEqual(told_by(twin), told_by(case))
        case.redo()
        twin.undo()
        twin.undo()
        self.assertEqual((case.steps("s"), case.past, case.future), ("HF", 3, 0))
        self.assertEqual((twin.sheets(), twin.past, twin.future, twin.many), ([], 0, 3, 3))
        twin.redo()
        twin.redo()
        twin.redo()
        self.assertEqual(told_by(twin), told_by(case))


class AttemptTest(Checked):
    def begun(self):
        """A case with a history, of which something has been taken back."""
        case = Case(small_hall())
        case.lay("s", Bale.shaped(ONE, "...?"))
        case.see("s", Bale.showing(ONE, "a", 0))
        case.work("s", "H")
        case.withdraw(0)
        case.undo()
        return case

    def refuses(self, case, requests, index, error):
        """The attempt is refused at this index with this error as the cause, and nothing has changed."""
        was = told_by(case)
        with self.assertRaises(Refused) as caught:
            attempt(case, requests)
        self.assertEqual((vars(caught.exception), caught.exception.__class__), ({"index": index}, Refused))
        self.assertIs(caught.exception.__cause__.__class__, error)
        self.assertEqual(told_by(case), was)
        return caught.exception.__cause__

    def test_each_kind_of_request(self):
        plain, case = self.begun(), self.begun()
        requests = [
            ("lay", "t", EVERY), ("work", "t", "HT"), ("see", "t", Bale.showing(ONE, "b", 2)), ("recall", "s", Bale.showing(ONE, "a", 1)),
            ("among", "H", [0, 2]), ("withdraw", 0), ("undo",), ("undo",), ("redo",), ("work", "s", ""),
        ]
        for word, *parts in requests:
            getattr(plain, word)(*parts)
        self.assertEqual(attempt(case, requests), 10)
        self.assertEqual(told_by(case), told_by(plain))
        self.assertEqual(case.past, 3 + 6 - 2 + 1 + 1)
        for _ in range(case.past):
            case.undo()
            plain.undo()
            self.assertEqual(told_by(case), told_by(plain))

    def test_none_and_one(self):
        case = self.begun()
        was = told_by(case)
        self.assertEqual(attempt(case, []), 0)
        self.assertEqual(told_by(case), was)
        self.assertEqual(case.future, 1)
        self.assertEqual(attempt(case, [("redo",)]), 1)
        self.assertEqual((case.future, case.facts()), (0, []))
        self.assertEqual(attempt(case, [("see", "s", EVERY)]), 1)
        self.assertEqual(case.facts(), [(1, "see", "s")])

    def test_refused_first_in_the_middle_and_last(self):
        good = [("work", "s", "F"), ("among", "H", [0]), ("recall", "s", EVERY)]
        for bad, error, told in (
            (("lay", "s", EVERY), TakenName, {"name": "s"}), (("lay", "S", EVERY), BadName, {"name": "S"}), (("lay", "t", NONE), NoWorld, {}),
            (("work", "t", "F"), UnknownSheet, {"name": "t"}), (("work", "s", "FX"), UnknownLetter, {"letter": "X", "place": 1}),
            (("work", "s", "F" * 9), TooMany, {"most": 8}), (("work", "s", "CCCC"), NoWorld, {}), (("see", "s", NONE), NoWorld, {}),
            (("recall", "t", EVERY), UnknownSheet, {"name": "t"}), (("among", "F", [0]), UnknownLetter, {"letter": "F", "place": 0}),
            (("among", "H", [0, 3]), BadIndex, {"at": 3}), (("withdraw", 7), UnknownFact, {"number": 7}),
            (("see", "s", Bale.every(TWO)), UnlikeSchemes, {}), (("lay", "t", Bale.every(TWO)), UnlikeSchemes, {}),
        ):
            for place in range(4):
                case = self.begun()
                cause = self.refuses(case, good[:place] + [bad] + good[place:], place, error)
                self.assertEqual(vars(cause), told)

    def test_unlike_schemes_are_not_looked_for_before_their_turn(self):
        case = self.begun()
        other = ("see", "s", Bale.every(TWO))
        self.refuses(case, [("withdraw", 9), other], 0, UnknownFact)
        self.refuses(case, [("work", "s", "F"), ("lay", "S", EVERY), other], 1, BadName)
        self.refuses(case, [("work", "s", "F"), other, ("withdraw", 9)], 1, UnlikeSchemes)

    def test_undo_and_redo_beyond_what_the_attempt_did(self):
        case = self.begun()
        self.assertEqual(attempt(case, [("undo",), ("undo",), ("among", "H", [1]), ("undo",), ("redo",)]), 5)
        self.assertEqual((case.past, case.future, case.facts(), case.steps("s")), (2, 0, [(0, "among", "H")], ""))
        case = self.begun()
        self.refuses(case, [("undo",)] * 4, 3, NothingToUndo)
        self.refuses(case, [("redo",), ("redo",)], 1, NothingToRedo)
        self.refuses(case, [("undo",), ("undo",), ("work", "s", "TT"), ("see", "s", EVERY), ("redo",)], 4, NothingToRedo)
        self.refuses(case, [("work", "s", "T"), ("redo",)], 1, NothingToRedo)
        self.refuses(case, [("undo",), ("undo",), ("undo",), ("work", "s", "T")], 3, UnknownSheet)
        case.redo()
        self.assertEqual((case.facts(), case.past, case.future), ([], 4, 0))

    def test_a_refused_attempt_takes_no_numbers(self):
        case = self.begun()
        self.refuses(case, [("see", "s", EVERY)] * 3 + [("see", "s", NONE)], 3, NoWorld)
        self.assertEqual(case.see("s", EVERY), 1)
        self.assertEqual(attempt(case, [("see", "s", EVERY), ("withdraw", 2), ("see", "s", EVERY)]), 3)
        self.assertEqual([number for number, _, _ in case.facts()], [0, 1, 3])

    def test_twins_are_not_touched(self):
        case = self.begun()
        twin = case.twin()
        was = told_by(twin)
        attempt(case, [("work", "s", "F"), ("undo",), ("undo",)])
        self.assertEqual(told_by(twin), was)

    def test_random_attempts(self):
        rng = random.Random(1920)
        words = ("lay", "work", "see", "recall", "among", "withdraw")
        for _ in range(30):
            history = History(random_hall(rng, rng.choice(SCHEMES[:3]), KINDS, 3, 0.7, 3))
            for _ in range(5):
                history.step(self, rng)
            plain, requests = history.case.twin(), []
            while len(requests) < 5:
                request = random_change(rng, history.model()) if rng.random() < 0.7 else (rng.choice(("undo", "redo")),)
                if request[0] in words + ("undo", "redo"):
                    requests.append(request)
            index = None
            for at, (word, *parts) in enumerate(requests):
                if index is None and refused(getattr(plain, word), *parts)[0]:
                    index = at
            if index is None:
                self.assertEqual(attempt(history.case, requests), 5)
                self.assertEqual(told_by(history.case), told_by(plain))
            else:
                was = told_by(history.case)
                self.fails(Refused, {"index": index}, attempt, history.case, requests)
                self.assertEqual(told_by(history.case), was)
                check_case(self, history.case, history.model())


if __name__ == "__main__":
    unittest.main()
