"""Rules: which colour a spot takes when it is mended, by its column and its two neighbours."""

from galloon.bales import Bale
from galloon.errors import BadClause, BadColour, BadColumn, BadIndex, BadRow, BadRule, NoDrift, TooMany
from galloon.schemes import DIGITS

MOST_CLAUSES = 6
END = "#"
ANY = "."


class Rule:
    """A list of clauses for the spots of one row; the first one that applies counts."""

    def __init__(self, scheme, row, clauses):
        if not 0 <= row < scheme.rows:
            raise BadRow(row)
        if len(clauses) > MOST_CLAUSES:
            raise TooMany(MOST_CLAUSES)
        for index, clause in enumerate(clauses):
            part = _wrong_part(scheme, clause)
            if part is not None:
                raise BadClause(index, part)
        self.scheme = scheme
        self.row = row
        self.clauses = [tuple(clause) for clause in clauses]
        self._news = _all_values(scheme, row, self.clauses)

    @classmethod
    def read(cls, scheme, text):
        """The rule with this written form."""
        row, colon, rest = text.partition(":")
        if not colon or len(row) != 1 or row not in "0123456789":
            raise BadRule()
        clauses = []
        for piece in rest.split(";") if rest else []:
            parts = piece.split(",")
            if len(parts) != 3:
                raise BadRule()
            ends = parts[2].split(">")
            if len(ends) != 2:
                raise BadRule()
            clauses.append((parts[0], parts[1], ends[0], ends[1]))
        return cls(scheme, int(row), clauses)

    def __eq__(self, other):
        return (
            isinstance(other, Rule)
            and self.scheme == other.scheme
            and self.row == other.row
            and self._news == other._news
        )

    def __str__(self):
        pieces = [f"{left},{here},{right}>{new}" for left, here, right, new in self.clauses]
        return f"{self.row}:{';'.join(pieces)}"

    @property
    def drift(self):
        """Do the colours of mended spots rise, fall, both or neither?"""
        spots = _spots_in_row(self.scheme, self.row)
        rises = any([self._news[look] > spots[look[1]] for look in self._news])
        falls = any([self._news[look] < spots[look[1]] for look in self._news])
        if rises and falls:
            return "mixed"
        if rises:
            return "up"
        return "down" if falls else "still"

    @property
    def monotone(self):
        """Does a value never become less when colours grow?"""
        for look in self._news:
            # Whatever grows can grow one colour after the other.
            grown = _grown_looks(self.scheme, self.row, look)
            if any([self._news[other] < self._news[look] for other in grown]):
                return False
        return True

    def value(self, left, column, right):
        """The new colour of a spot with these neighbours in this column."""
        if left != END and not self.scheme.is_colour(left):
            raise BadColour(left)
        if not self.scheme.is_column(column):
            raise BadColumn(column)
        if right != END and not self.scheme.is_colour(right):
            raise BadColour(right)
        return self._news[(left, column, right)]

    def mirrored(self):
        """The rule that looks at the neighbours the other way round."""
        clauses = [(right, here, left, new) for left, here, right, new in self.clauses]
        return Rule(self.scheme, self.row, clauses)


def spare_clauses(rule):
    """The indexes of the clauses of which each one alone may be left out."""
    found = []
    for index in range(len(rule.clauses)):
        fewer = Rule(rule.scheme, rule.row, rule.clauses[:index] + rule.clauses[index + 1:])
        if fewer == rule:
            found.append(index)
    return found


def mended(rule, strip, place):
    """The strip after the spot at one index has been mended."""
    rule.scheme.check(strip)
    if not 0 <= place < len(strip):
        raise BadIndex(place)
    line = END + rule.scheme.picture(strip)[rule.row] + END
    new = rule.value(line[place], strip[place], line[place + 2])
    return rule.scheme.recoloured(strip, rule.row, place, new)


def restless(rule, strip):
    """The places of which each one alone changes the strip when it is mended."""
    return [place for place, _ in mendings(rule, strip)]


def at_rest(rule):
    """The bale of all strips in which no place is restless."""
    scheme = rule.scheme
    spots = _spots_in_row(scheme, rule.row)
    # A state has the left neighbour of the last column and this column, but for the first state.
    states = [("", "")] + [(left, column) for left in _signs(scheme) for column in scheme.columns]
    numbers = {state: number for number, state in enumerate(states)}
    rows = [[numbers[(END, column)] for column in scheme.columns]]
    goods = [True]
    for left, column in states[1:]:
        news = {right: rule.value(left, column, right) == spots[column] for right in _signs(scheme)}
        onward = [numbers[(spots[column], after)] if news[spots[after]] else -1 for after in scheme.columns]
        rows.append(onward)
        goods.append(news[END])
    return Bale(scheme, rows, goods)


def mendings(rule, strip):
    """For each restless place the pair of the place and its column after it has been mended."""
    scheme = rule.scheme
    line = END + scheme.picture(strip)[rule.row] + END
    found = []
    for place, column in enumerate(strip):
        new = rule.value(line[place], column, line[place + 2])
        if new != line[place + 1]:
            found.append((place, scheme.recoloured(column, rule.row, 0, new)))
    return found


def all_mended(rule, strip):
    """The strip after all spots of the row have been mended at the same time."""
    columns = {place: column for place, column in mendings(rule, strip)}
    return "".join([columns.get(place, column) for place, column in enumerate(strip)])


def check_drift(rule):
    """Raise NoDrift() if the rule may never come to rest."""
    if rule.drift == "mixed":
        raise NoDrift()


def _signs(scheme):
    """What a neighbour may be: no spot, or a colour."""
    return END + DIGITS[:scheme.colours]


def _spots_in_row(scheme, row):
    """For each column its colour in one row."""
    return {column: scheme.spots(column)[row] for column in scheme.columns}


def _wrong_part(scheme, clause):
    """The name of the first part of a clause that is not valid, or None."""
    left, here, right, new = clause
    if not _are_signs(scheme, left):
        return "left"
    if len(here) != scheme.rows or not all([spot == ANY or scheme.is_colour(spot) for spot in here]):
        return "here"
    if not _are_signs(scheme, right):
        return "right"
    return None if scheme.is_colour(new) else "new"


def _are_signs(scheme, text):
    """Is a string one or more different signs of neighbours, in ascending order?"""
    if not text or list(text) != sorted(set(text)):
        return False
    return all([sign in _signs(scheme) for sign in text])


def _all_values(scheme, row, clauses):
    """For each left neighbour, column and right neighbour the new colour."""
    signs = _signs(scheme)
    found = {}
    for column in scheme.columns:
        spots = scheme.spots(column)
        fitting = [clause for clause in clauses if _fits(clause[1], spots)]
        for left in signs:
            beside = [clause for clause in fitting if left in clause[0]]
            for right in signs:
                news = [clause[3] for clause in beside if right in clause[2]]
                found[(left, column, right)] = news[0] if news else spots[row]
    return found


def _fits(here, spots):
    """Do the spots of a column fit the middle part of a clause?"""
    return all([wanted == ANY or wanted == spot for wanted, spot in zip(here, spots)])


def _grown_looks(scheme, row, look):
    """The looks in which one colour of the row is greater by one."""
    left, column, right = look
    higher = {lower: upper for lower, upper in zip(DIGITS, DIGITS[1:scheme.colours])}
    spots = scheme.spots(column)
    found = []
    if left in higher:
        found.append((higher[left], column, right))
    if spots[row] in higher:
        grown = scheme.column(spots[:row] + higher[spots[row]] + spots[row + 1:])
        found.append((left, grown, right))
    if right in higher:
        found.append((left, column, higher[right]))
    return found
