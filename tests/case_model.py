"""A plain twin of cases: all stories of all sheets are tried, strip by strip.

A model has the changes that are in force as a list of tuples, so that a state is what
these changes alone lead to. The bales of sheets must be finite.
"""

import itertools

from galloon.errors import GalloonError
from tests.makers import in_order, made_of

LONG = 60


class Model:
    """A case, found by trying."""

    def __init__(self, hall):
        self.hall = hall
        self.worlds = hall.worlds()
        self.hidden = hall.hidden_letters()
        self.sheets = {}
        self.facts = {}
        self.number = 0
        self.kept = {}

    def copy(self):
        """A model in the same state; what has been found already is shared."""
        other = Model(self.hall)
        other.sheets, other.facts, other.number = dict(self.sheets), dict(self.facts), self.number
        other.kept = self.kept
        return other

    def change(self, word, *parts):
        """A copy in which one change has been made, or None if no world would be left."""
        other = self.copy()
        if word == "lay":
            other.sheets[parts[0]] = (parts[1], "")
        elif word == "work":
            bale, plan = self.sheets[parts[0]]
            other.sheets[parts[0]] = (bale, plan + parts[1])
        elif word == "withdraw":
            del other.facts[parts[0]]
        else:
            time = len(self.sheets[parts[0]][1]) if word == "see" else 0
            other.facts[self.number] = (word, time, parts)
            other.number += 1
        return other if other.left() else None

    def tool(self, letter, world):
        """The deed that a tool is in a world."""
        told = dict(zip(self.hidden, world))
        return self.hall[letter].deeds[told[letter]] if letter in told else self.hall[letter]

    def made(self, letter, world, strip):
        """What a tool makes of a strip in a world."""
        deed = self.tool(letter, world)
        key = (id(deed), strip)
        if key not in self.kept:
            # The deed is kept, too, so that no other one gets its number.
            self.kept[key] = (deed, made_of(deed, strip))
        return self.kept[key][1]

    def holds(self, fact, world):
        """Does a fact about tools hold in a world?"""
        word, _, parts = fact
        told = dict(zip(self.hidden, world))
        if word == "among":
            return told[parts[0]] in parts[1]
        if word == "alike":
            return (told[parts[0]] == told[parts[1]]) != parts[2]
        if word == "can":
            plan, before, after, never = parts
            texts = {before}
            for letter in plan:
                texts = {out for text in texts for out in self.made(letter, world, text)}
            return (after in texts) != never
        return True

    def ends(self, name, world, facts):
        """All pairs of the first and the last strip of a story of a sheet in a world."""
        bale, plan = self.sheets[name]
        about = [(time, parts[1]) for word, time, parts in facts if word in ("see", "recall") and parts[0] == name]
        found = {(strip, strip) for strip in bale.strips(LONG)}
        for at in range(len(plan) + 1):
            if at > 0:
                found = {(first, out) for first, last in found for out in self.made(plan[at - 1], world, last)}
            found = {(first, last) for first, last in found if all(last in seen for time, seen in about if time == at)}
        return found

    def is_left(self, world, facts):
        """Is a world left by some facts?"""
        return all(self.holds(fact, world) for fact in facts) and all(self.ends(name, world, facts) for name in self.sheets)

    def left(self):
        """The worlds that are left."""
        return [world for world in self.worlds if self.is_left(world, list(self.facts.values()))]

    def pairs(self, name):
        """The first and last strips of all stories of a sheet in all worlds that are left."""
        return {pair for world in self.left() for pair in self.ends(name, world, list(self.facts.values()))}

    def loss(self, name):
        """What `loss` must be."""
        sources = {}
        for first, last in self.pairs(name):
            sources.setdefault(last, set()).add(first)
        shared = in_order([last for last in sources if len(sources[last]) > 1])
        return (shared[0], *in_order(sources[shared[0]])[:2]) if shared else None

    def fewest(self, worlds):
        """The first list of the fewest facts with which alone none of some worlds is left."""
        for size in range(len(self.facts) + 1):
            for numbers in itertools.combinations(sorted(self.facts), size):
                if not any(self.is_left(world, [self.facts[number] for number in numbers]) for world in worlds):
                    return list(numbers)
        return None

    def triples(self):
        """What `facts` must be."""
        subjects = {"alike": lambda parts: parts[0] + parts[1]}
        return [
            (number, word, subjects.get(word, lambda parts: parts[0])(parts))
            for number, (word, _, parts) in sorted(self.facts.items())
        ]


def change_case(case, word, *parts):
    """Make a change of a model in a case."""
    if word == "alike":
        return case.alike(parts[0], parts[1], unlike=parts[2])
    if word == "can":
        return case.can(parts[0], parts[1], parts[2], never=parts[3])
    return getattr(case, word)(*parts)


def check_case(test, case, model):
    """All that a case tells is what its model tells."""
    left = model.left()
    test.assertEqual((case.worlds_left(), case.many), (left, len(left)))
    test.assertEqual((case.facts(), len(case)), (model.triples(), len(model.facts)))
    test.assertEqual(case.sheets(), sorted(model.sheets))
    for letter in model.hidden:
        place = model.hidden.index(letter)
        test.assertEqual(case.indexes(letter), sorted({world[place] for world in left}))
    for name in model.sheets:
        pairs = model.pairs(name)
        test.assertEqual(case.steps(name), model.sheets[name][1])
        test.assertEqual(list(case.now(name).strips(LONG)), in_order({last for _, last in pairs}))
        test.assertEqual(list(case.origin(name).strips(LONG)), in_order({first for first, _ in pairs}))


def check_more(test, rng, case, model, bale):
    """Further questions to a case, with one bale."""
    left, scheme = model.left(), case.scheme
    for name in model.sheets:
        pairs = model.pairs(name)
        lasts = in_order({last for _, last in pairs})
        known = in_order({first for first, last in pairs if last in bale})
        test.assertEqual(list(case.origin_of(name, bale).strips(LONG)), known)
        within = [last in bale for last in lasts]
        test.assertEqual(case.verdict(name, bale), "always" if all(within) else "sometimes" if any(within) else "never")
        test.assertEqual(case.loss(name), model.loss(name))
        for row, at in itertools.product(range(scheme.rows), range(5)):
            for from_end in (False, True):
                read = [last[::-1] if from_end else last for last in lasts]
                spots = {scheme.spots(last[at])[row] if at < len(last) else None for last in read}
                sure = spots.pop() if len(spots) == 1 else None
                test.assertEqual(case.sure_spot(name, row, at, from_end=from_end), sure)
    if len(model.facts) <= 8:
        world = rng.choice(model.worlds)
        test.assertEqual(case.refuting(world), None if world in left else model.fewest([world]))
        for place, letter in enumerate(model.hidden):
            index = rng.randrange(len(model.hall[letter]))
            worlds = [world for world in model.worlds if world[place] == index]
            known = None if any(world in left for world in worlds) else model.fewest(worlds)
            test.assertEqual(case.grounds(letter, index), known)


def refused(call, *args):
    """Is a call refused with an error of the program? Its result otherwise."""
    try:
        return False, call(*args)
    except GalloonError as error:
        return True, error
