"""Folds: a strip of one row becomes one of two rows, and strips that are read from both ends."""

from galloon.bales import Bale, firm_of
from galloon.ends import Ends, first_from_ends, steps_inwards
from galloon.errors import BadScheme, NoFold, UnlikeSchemes
from galloon.schemes import Scheme
from galloon.strips import mirrored


def folded_scheme(scheme):
    """The scheme of the folds of the strips of a scheme of one row."""
    if scheme.rows != 1:
        raise BadScheme("size")
    return Scheme(2, scheme.colours)


def fold(scheme, strip):
    """The strip whose upper row is the first half of a strip, and whose lower row is the rest, mirrored."""
    folded = folded_scheme(scheme)
    scheme.check(strip)
    if len(strip) % 2 == 1:
        raise NoFold(len(strip))
    line = scheme.picture(strip)[0]
    half = len(strip) // 2
    return folded.of_picture([line[:half], mirrored(line[half:])])


def unfold(scheme, strip):
    """The strip of which this one is the fold."""
    upper, lower = folded_scheme(scheme).picture(strip)
    return scheme.of_picture([upper + mirrored(lower)])


def fold_bale(bale):
    """The bale of the folds of the strips of a bale."""
    folded = folded_scheme(bale.scheme)
    ends = Ends(firm_of(bale))
    nodes = [ends.begun()]
    numbers = {nodes[0]: 0}
    rows = []
    while len(rows) < len(nodes):
        found = {}
        for front, back, after in steps_inwards(ends, nodes[len(rows)]):
            found[fold(bale.scheme, front + back)] = after
            if after not in numbers:
                numbers[after] = len(nodes)
                nodes.append(after)
        rows.append([numbers[found[column]] if column in found else -1 for column in folded.columns])
    return Bale(folded, rows, [ends.meets(node) for node in nodes])


def folding_onto(bale, folded):
    """The first strip of a bale whose fold belongs to another bale, or None."""
    if folded.scheme != folded_scheme(bale.scheme):
        raise UnlikeSchemes()
    graph = Folding(bale, folded)
    return first_from_ends(graph, {graph.begun(): ""})


def symmetric(bale):
    """The first strip of a bale that is equal to its mirrored strip, or None."""
    graph = Symmetry(bale)
    return first_from_ends(graph, {graph.begun(): ""})


class Folding:
    """A bale that is read from both ends, and a bale of folds that is read with it."""

    def __init__(self, bale, folded):
        rows, goods = firm_of(folded)
        self.scheme = bale.scheme
        self._ends = Ends(firm_of(bale))
        self._rows = rows
        self._goods = goods

    def begun(self):
        """The node at which nothing has been read."""
        return (self._ends.begun(), 0)

    def ways(self, node):
        """The ways of a node."""
        place, state = node
        found = []
        for front, back, after in steps_inwards(self._ends, place):
            onward = self._rows[state].get(fold(self.scheme, front + back), -1)
            if onward >= 0:
                found.append((front, back, (after, onward)))
        return found

    def closings(self, node):
        """The strings in the middle with which the strip and its fold belong to the bales."""
        place, state = node
        return [""] if self._ends.meets(place) and self._goods[state] else []


class Symmetry:
    """A bale of which the same is read from both ends."""

    def __init__(self, bale):
        self.scheme = bale.scheme
        self._ends = Ends(firm_of(bale))

    def begun(self):
        """The node at which nothing has been read."""
        return self._ends.begun()

    def ways(self, node):
        """The ways of a node."""
        return [(front, back, after) for front, back, after in steps_inwards(self._ends, node) if front == back]

    def closings(self, node):
        """The strings in the middle with which the strip belongs to the bale."""
        found = [""] if self._ends.meets(node) else []
        return found + [column for column in self.scheme.columns if self._ends.meets_over(node, column)]
