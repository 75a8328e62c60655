"""Schemes: how many rows a strip has, and how many colours a spot can have."""

from galloon.errors import (
    BadColour,
    BadColumn,
    BadIndex,
    BadPicture,
    BadRow,
    BadScheme,
    BadSpots,
    BadStrip,
    UnlikeSchemes,
)

DIGITS = "012"
LETTERS = "abcdefghi"


class Scheme:
    """The columns of strips of some rows and colours, and the pictures of such strips."""

    MOST = 9
    BLANK = "a"

    def __init__(self, rows, colours):
        if rows not in (1, 2, 3):
            raise BadScheme("rows")
        if colours not in (2, 3):
            raise BadScheme("colours")
        many = 1
        for _ in range(rows):
            many = many * colours
        if many > self.MOST:
            raise BadScheme("size")
        self.rows = rows
        self.colours = colours
        self.columns = LETTERS[:many]

    def __eq__(self, other):
        return isinstance(other, Scheme) and self.rows == other.rows and self.colours == other.colours

    def __len__(self):
        return len(self.columns)

    def is_column(self, text):
        """Is the string one column of the scheme?"""
        return len(text) == 1 and text in self.columns

    def is_colour(self, text):
        """Is the string one colour of the scheme?"""
        return len(text) == 1 and text in DIGITS[:self.colours]

    def is_strip(self, text):
        """Is the string a strip of the scheme?"""
        return all([column in self.columns for column in text])

    def check(self, text):
        """Raise BadStrip(text) if the string is not a strip of the scheme."""
        if not self.is_strip(text):
            raise BadStrip(text)

    def spots(self, column):
        """The colours of a column, the top row first."""
        if not self.is_column(column):
            raise BadColumn(column)
        number = ord(column) - ord(self.BLANK)
        spots = ""
        for _ in range(self.rows):
            spots = DIGITS[number % self.colours] + spots
            number = number // self.colours
        return spots

    def column(self, spots):
        """The column with these colours, the top row first."""
        if len(spots) != self.rows or not all([self.is_colour(spot) for spot in spots]):
            raise BadSpots(spots)
        number = 0
        for spot in spots:
            number = number * self.colours + int(spot)
        return self.columns[number]

    def picture(self, strip):
        """One string for each row, the top row first: its colours from left to right."""
        self.check(strip)
        drawn = [self.spots(column) for column in strip]
        return ["".join([spots[row] for spots in drawn]) for row in range(self.rows)]

    def of_picture(self, lines):
        """The strip with this picture."""
        for number, line in enumerate(lines, start=1):
            if number > self.rows or len(line) != len(lines[0]):
                raise BadPicture(number)
            if not all([self.is_colour(spot) for spot in line]):
                raise BadPicture(number)
        if len(lines) < self.rows:
            raise BadPicture(len(lines) + 1)
        upright = ["".join([row[at] for row in lines]) for at in range(len(lines[0]))]
        return "".join([self.column(spots) for spots in upright])

    def colour_at(self, strip, row, at):
        """The colour of one spot of a strip."""
        self.check(strip)
        if not 0 <= row < self.rows:
            raise BadRow(row)
        if not 0 <= at < len(strip):
            raise BadIndex(at)
        return self.spots(strip[at])[row]

    def recoloured(self, strip, row, at, colour):
        """The strip with another colour at one spot."""
        self.colour_at(strip, row, at)
        if not self.is_colour(colour):
            raise BadColour(colour)
        spots = self.spots(strip[at])
        column = self.column(spots[:row] + colour + spots[row + 1:])
        return strip[:at] + column + strip[at + 1:]


def check_alike(one, other):
    """Raise UnlikeSchemes() if two objects do not belong to equal schemes."""
    if one.scheme != other.scheme:
        raise UnlikeSchemes()
