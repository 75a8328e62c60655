"""Patterns: strings that describe strips (points 7 and 8).

A pattern is first split into tokens, which finds all its errors: an atom becomes the
string of its columns, and every other sign stands for itself. Then each atom becomes a
state of a loose table (module tables): the state that is reached by reading it.
"""

from galloon.errors import BadPattern
from galloon.schemes import DIGITS

MOST_ATOMS = 12
MOST_DEPTH = 3
REPEATS = ("?", "*", "+")
NO_ATOM_BEFORE = ("(", "|", "?", "*", "+")

# A part of a pattern is a tuple: may it be empty, the atoms that it can begin with, the
# atoms that it can end with, and the pairs of atoms that can stand side by side in it.
EMPTY_PART = (True, (), (), ())


def pattern_table(scheme, pattern):
    """The arcs and goods of a loose table of the strips that a pattern describes."""
    tokens = _tokens(scheme, pattern)
    part, _ = _pattern(tokens, 0)
    empty, firsts, lasts, pairs = part
    arcs = [[] for _ in range(len(tokens) + 1)]
    steps = [(0, first) for first in firsts] + [(one + 1, other) for one, other in pairs]
    for before, atom in steps:
        arcs[before].extend([(column, atom + 1) for column in tokens[atom]])
    goods = [empty] + [at in lasts for at in range(len(tokens))]
    return arcs, goods


def is_described(scheme, pattern, strip):
    """Does a pattern describe a strip? It is read along the strip, without any table."""
    ends, _ = _ends(_tokens(scheme, pattern), 0, strip, [0])
    return len(strip) in ends


def _tokens(scheme, pattern):
    """The tokens of a pattern; BadPattern(place) for the first character that is wrong."""
    tokens = []
    atoms = 0
    depth = 0
    at = 0
    while at < len(pattern):
        token = pattern[at]
        after = at + 1
        if token == "(":
            depth += 1
        elif token == ")":
            depth -= 1
        elif token in REPEATS:
            if not tokens or tokens[-1] in NO_ATOM_BEFORE:
                raise BadPattern(at)
        elif token != "|":
            atoms += 1
            if atoms > MOST_ATOMS:
                raise BadPattern(at)
            token, after = _atom(scheme, pattern, at)
        if not 0 <= depth <= MOST_DEPTH:
            raise BadPattern(at)
        tokens.append(token)
        at = after
    if depth > 0:
        raise BadPattern(len(pattern))
    return tokens


def _atom(scheme, pattern, at):
    """The columns of the atom that begins at an index, and the index behind it."""
    sign = pattern[at]
    if sign in scheme.columns:
        return sign, at + 1
    if sign == ".":
        return scheme.columns, at + 1
    if sign == "[":
        return _listed_columns(scheme, pattern, at + 1)
    if sign in DIGITS[:scheme.rows]:
        return _coloured_columns(scheme, pattern, at)
    raise BadPattern(at)


def _listed_columns(scheme, pattern, at):
    """The columns of a list in square brackets, behind its first bracket."""
    found = ""
    while at < len(pattern):
        sign = pattern[at]
        if sign == "]" and found:
            return found, at + 1
        if sign not in scheme.columns or (found and sign <= found[-1]):
            raise BadPattern(at)
        found = found + sign
        at += 1
    raise BadPattern(at)


def _coloured_columns(scheme, pattern, at):
    """The columns that have a colour in a row, from the two digits at an index."""
    if at + 1 == len(pattern) or not scheme.is_colour(pattern[at + 1]):
        raise BadPattern(at + 1)
    row = int(pattern[at])
    colour = pattern[at + 1]
    return "".join([column for column in scheme.columns if scheme.spots(column)[row] == colour]), at + 2


def _pattern(tokens, at):
    """The part that branches make, from an index on, and the index behind them."""
    whole, at = _branch(tokens, at)
    while at < len(tokens) and tokens[at] == "|":
        part, at = _branch(tokens, at + 1)
        whole = _either(whole, part)
    return whole, at


def _branch(tokens, at):
    """The part that one branch makes, and the index behind it."""
    whole = EMPTY_PART
    while at < len(tokens) and tokens[at] not in ("|", ")"):
        part, at = _item(tokens, at)
        whole = _in_order(whole, part)
    return whole, at


def _item(tokens, at):
    """The part that one item makes, and the index behind it."""
    part = (False, (at,), (at,), ())
    if tokens[at] == "(":
        part, at = _pattern(tokens, at + 1)
    at += 1
    if at < len(tokens) and tokens[at] in REPEATS:
        return _repeated(part, tokens[at]), at + 1
    return part, at


def _either(one, other):
    """The part that describes what one of two parts describes."""
    return (one[0] or other[0], one[1] + other[1], one[2] + other[2], one[3] + other[3])


def _in_order(one, other):
    """The part that describes what two parts describe side by side."""
    firsts = one[1] + other[1] if one[0] else one[1]
    lasts = one[2] + other[2] if other[0] else other[2]
    between = tuple([(last, first) for last in one[2] for first in other[1]])
    return (one[0] and other[0], firsts, lasts, one[3] + other[3] + between)


def _repeated(part, sign):
    """The part with a `?`, `*` or `+` behind it."""
    empty, firsts, lasts, pairs = part
    if sign != "?":
        pairs = pairs + tuple([(last, first) for last in lasts for first in firsts])
    return (empty or sign != "+", firsts, lasts, pairs)


def _ends(tokens, at, strip, begins):
    """The indexes of a strip to which a pattern leads from other ones, and the token behind it."""
    found, at = _branch_ends(tokens, at, strip, begins)
    while at < len(tokens) and tokens[at] == "|":
        more, at = _branch_ends(tokens, at + 1, strip, begins)
        found = sorted(set(found + more))
    return found, at


def _branch_ends(tokens, at, strip, begins):
    """The indexes of a strip to which one branch leads from other ones, and the token behind it."""
    found = begins
    while at < len(tokens) and tokens[at] not in ("|", ")"):
        found, at = _item_ends(tokens, at, strip, found)
    return found, at


def _item_ends(tokens, at, strip, begins):
    """The indexes of a strip to which one item leads from other ones, and the token behind it."""
    found, behind = _atom_ends(tokens, at, strip, begins)
    if behind == len(tokens) or tokens[behind] not in REPEATS:
        return found, behind
    sign = tokens[behind]
    fresh = found if sign != "?" else []
    while fresh:
        more, _ = _atom_ends(tokens, at, strip, fresh)
        fresh = [end for end in more if end not in found]
        found = found + fresh
    return sorted(set(found if sign == "+" else found + begins)), behind + 1


def _atom_ends(tokens, at, strip, begins):
    """The indexes of a strip to which one atom leads from other ones, and the token behind it."""
    if tokens[at] == "(":
        found, at = _ends(tokens, at + 1, strip, begins)
        return found, at + 1
    return [begin + 1 for begin in begins if begin < len(strip) and strip[begin] in tokens[at]], at + 1
