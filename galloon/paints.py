"""Paints: a small map of colours for each row."""

from galloon.errors import BadPaint
from galloon.schemes import DIGITS, check_alike


class Paint:
    """A map of colours for each row, the top row first."""

    def __init__(self, scheme, maps):
        if len(maps) != scheme.rows:
            raise BadPaint(-1)
        for row, told in enumerate(maps):
            if len(told) != scheme.colours or not all([scheme.is_colour(colour) for colour in told]):
                raise BadPaint(row)
        self.scheme = scheme
        self.maps = list(maps)

    @classmethod
    def still(cls, scheme):
        """The paint that changes nothing."""
        return cls(scheme, [DIGITS[:scheme.colours]] * scheme.rows)

    @classmethod
    def read(cls, scheme, text):
        """The paint with this written form."""
        return cls(scheme, text.split("/"))

    def __call__(self, strip):
        self.scheme.check(strip)
        painted = {column: self._painted(column) for column in self.scheme.columns}
        return "".join([painted[column] for column in strip])

    def __eq__(self, other):
        return isinstance(other, Paint) and self.scheme == other.scheme and self.maps == other.maps

    def __mul__(self, other):
        check_alike(self, other)
        maps = ["".join([later[int(colour)] for colour in told]) for told, later in zip(self.maps, other.maps)]
        return Paint(self.scheme, maps)

    def __str__(self):
        return "/".join(self.maps)

    def undoing(self):
        """The paint that undoes this one, or None if two colours become the same."""
        if not all([len(set(told)) == len(told) for told in self.maps]):
            return None
        return Paint(self.scheme, [_map_back(told) for told in self.maps])

    def _painted(self, column):
        """A column with all its spots painted."""
        spots = self.scheme.spots(column)
        return self.scheme.column("".join([told[int(spot)] for told, spot in zip(self.maps, spots)]))


def _map_back(told):
    """The map of colours that leads back; no two colours have the same result."""
    sources = {colour: source for colour, source in zip(told, DIGITS)}
    return "".join([sources[colour] for colour in sorted(told)])
