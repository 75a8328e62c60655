"""What the tools of a hall make of bales, found once and kept.

Each bale has a number, so that plans and worlds that lead to equal bales are seen at
once. The bale without strips has the number 0.
"""

from galloon.bales import Bale

EMPTY = 0


class Images:
    """The bales that have been met, and what leads from one to another."""

    def __init__(self, hall):
        self.scheme = hall.scheme
        self._choices = {letter: hall.choices(letter) for letter in hall.letters()}
        self._places = {letter: place for place, letter in enumerate(hall.hidden_letters())}
        self._every_world = hall.worlds()
        self._bales = []
        self._numbers = {}
        self._after = {}
        self._before = {}
        self._shared = {}
        self.number_of(Bale.none(hall.scheme))

    def number_of(self, bale):
        """The number of a bale."""
        key = (tuple([tuple(row) for row in bale.rows]), tuple(bale.goods))
        if key not in self._numbers:
            self._numbers[key] = len(self._bales)
            self._bales.append(bale)
        return self._numbers[key]

    def bale_at(self, number):
        """The bale with a number."""
        return self._bales[number]

    def deed(self, letter, world):
        """The deed that a tool is in a world."""
        return self._choices[letter][self._index(letter, world)]

    def indexes_on(self, plan, world):
        """Which of their deeds the tools of a plan are in a world."""
        return tuple([self._index(letter, world) for letter in plan])

    def worlds_apart(self, plan):
        """All worlds but those in which the tools of a plan are as they are in an earlier one."""
        found = {}
        for world in self._every_world:
            found.setdefault(self.indexes_on(plan, world), world)
        return list(found.values())

    def after(self, letter, world, number):
        """The number of the image of a bale."""
        step = (letter, self._index(letter, world), number)
        if step not in self._after:
            self._after[step] = self.number_of(self.deed(letter, world).image(self._bales[number]))
        return self._after[step]

    def before(self, letter, world, number):
        """The number of the source of a bale."""
        step = (letter, self._index(letter, world), number)
        if step not in self._before:
            self._before[step] = self.number_of(self.deed(letter, world).source(self._bales[number]))
        return self._before[step]

    def shared(self, one, other):
        """The number of the bale of the strips that two bales share."""
        pair = (min(one, other), max(one, other))
        if pair not in self._shared:
            self._shared[pair] = self.number_of(self._bales[one] & self._bales[other])
        return self._shared[pair]

    def _index(self, letter, world):
        """The index of the deed that a tool is in a world; 0 for tools that are not hidden."""
        return world[self._places[letter]] if letter in self._places else 0
