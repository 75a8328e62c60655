"""Halls: collections of tools, some of which are hidden, and the worlds that they may be."""

from galloon.errors import (
    BadCount,
    BadLetter,
    TooMany,
    UnequalFrames,
    UnknownLetter,
    UnknownWorld,
)
from galloon.fonts import is_letter
from galloon.schemes import check_alike
from galloon.workshops import Workshop

MOST_TOOLS = 8
MOST_WORLDS = 48


class Hidden:
    """One deed of a list, always the same one, but nobody has told which."""

    MOST = 12

    def __init__(self, deeds):
        for deed in deeds:
            check_alike(deeds[0], deed)
        if not deeds:
            raise BadCount(0)
        if len(deeds) > self.MOST:
            raise TooMany(self.MOST)
        for index, deed in enumerate(deeds):
            if deed.short != deeds[0].short or deed.flips != deeds[0].flips:
                raise UnequalFrames(index)
        self.scheme = deeds[0].scheme
        self.deeds = list(deeds)

    def __len__(self):
        return len(self.deeds)


class Hall:
    """At most 8 tools, each under a letter."""

    def __init__(self, scheme, **tools):
        self.scheme = scheme
        self._tools = {}
        self._limit = MOST_WORLDS
        for letter in sorted(tools):
            check_alike(self, tools[letter])
        for letter in sorted(tools):
            self.put(letter, tools[letter])

    def __getitem__(self, letter):
        if letter not in self._tools:
            raise UnknownLetter(letter, 0)
        return self._tools[letter]

    def __setitem__(self, letter, tool):
        self.put(letter, tool)

    def __iter__(self):
        raise TypeError("a hall cannot be iterated over")

    def __contains__(self, letter):
        return letter in self._tools

    def __len__(self):
        return len(self._tools)

    @property
    def limit(self):
        """The most worlds that the hall may have."""
        return self._limit

    @limit.setter
    def limit(self, value):
        self.change_limit(value)

    def put(self, letter, tool):
        """Add a tool, or replace the one under this letter."""
        check_alike(self, tool)
        if not is_letter(letter):
            raise BadLetter(letter)
        if letter not in self._tools and len(self._tools) == MOST_TOOLS:
            raise TooMany(MOST_TOOLS)
        others = [self._tools[other] for other in self._tools if other != letter]
        if _many_worlds(others + [tool]) > self._limit:
            raise TooMany(self._limit)
        self._tools[letter] = tool

    def remove(self, letter):
        """Remove the tool under a letter."""
        if letter not in self._tools:
            raise UnknownLetter(letter, 0)
        del self._tools[letter]

    def change_limit(self, limit):
        """Set the most worlds that the hall may have."""
        if not 1 <= limit <= MOST_WORLDS:
            raise BadCount(limit)
        if _many_worlds(list(self._tools.values())) > limit:
            raise TooMany(limit)
        self._limit = limit

    def letters(self):
        """The letters of the tools in ascending order."""
        return "".join(sorted(self._tools))

    def hidden_letters(self):
        """The letters of the hidden tools in ascending order."""
        return "".join([letter for letter in sorted(self._tools) if is_hidden(self._tools[letter])])

    def worlds(self):
        """The list of all worlds in ascending order."""
        found = [()]
        for letter in self.hidden_letters():
            found = [world + (index,) for world in found for index in range(len(self._tools[letter]))]
        return found

    def workshop(self, plan, world):
        """The workshop of the tools of a plan, as they are in a world."""
        self.check_plan(plan)
        self.check_world(world)
        told = {letter: index for letter, index in zip(self.hidden_letters(), world)}
        return Workshop(self.scheme, [self.choices(letter)[told.get(letter, 0)] for letter in plan])

    def choices(self, letter):
        """The list of the deeds that the tool under a letter may be."""
        tool = self[letter]
        return list(tool.deeds) if is_hidden(tool) else [tool]

    def check_hidden(self, letter):
        """Raise UnknownLetter(letter, 0) if the string is not the letter of a hidden tool."""
        if letter not in self._tools or not is_hidden(self._tools[letter]):
            raise UnknownLetter(letter, 0)

    def check_letters(self, plan):
        """Raise UnknownLetter(letter, place) for the first character that is not the letter of a tool."""
        for place, letter in enumerate(plan):
            if letter not in self._tools:
                raise UnknownLetter(letter, place)

    def check_plan(self, plan):
        """Raise the errors of a plan that has unknown letters or too many of them."""
        self.check_letters(plan)
        if len(plan) > Workshop.MOST:
            raise TooMany(Workshop.MOST)

    def check_world(self, world):
        """Raise UnknownWorld(world) if the hall does not have this world."""
        if world not in self.worlds():
            raise UnknownWorld(world)


def is_hidden(tool):
    """Is a tool a hidden one?"""
    return isinstance(tool, Hidden)


def _many_worlds(tools):
    """The number of the worlds of some tools."""
    many = 1
    for tool in tools:
        many = many * (len(tool) if is_hidden(tool) else 1)
    return many
