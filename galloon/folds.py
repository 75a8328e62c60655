"""Folds: a strip of one row becomes one of two rows, and strips that are read from both ends."""

from galloon.bales import Bale, bale_of, firm_of
from galloon.ends import Span, first_from_ends
from galloon.errors import BadScheme, NoFold, UnlikeSchemes
from galloon.schemes import Scheme
from galloon.strips import mirrored


def folded_scheme(scheme):
    """The scheme of the folds of the strips of a scheme of one row."""
    if scheme.rows != 1:
        raise BadScheme("size")
    return Scheme(2, scheme.colours)


def fold(scheme, strip):
    """The strip whose upper row is the first half of a strip, and whose lower row is the rest, mirrored."""
    folded = folded_scheme(scheme)
    scheme.check(strip)
    if len(strip) % 2 == 1:
        raise NoFold(len(strip))
    line = scheme.picture(strip)[0]
    half = len(strip) // 2
    return folded.of_picture([line[:half], mirrored(line[half:])])


def unfold(scheme, strip):
    """The strip of which this one is the fold."""
    upper, lower = folded_scheme(scheme).picture(strip)
    return scheme.of_picture([upper + mirrored(lower)])


def fold_bale(bale):
    """The bale of the folds of the strips of a bale."""
    folded = folded_scheme(bale.scheme)
    graph = Folding(bale, Bale.every(folded))
    nodes = list(graph.starts())
    starts = list(range(len(nodes)))
    numbers = {node: number for number, node in enumerate(nodes)}
    arcs = []
    while len(arcs) < len(nodes):
        row = []
        for front, back, after in graph.ways(nodes[len(arcs)]):
            if after not in numbers:
                numbers[after] = len(nodes)
                nodes.append(after)
            row.append((graph.folded_column(front, back), numbers[after]))
        arcs.append(row)
    return bale_of(folded, arcs, starts, [graph.closings(node) != [] for node in nodes])


def folding_onto(bale, folded):
    """The first strip of a bale whose fold belongs to another bale, or None."""
    if folded.scheme != folded_scheme(bale.scheme):
        raise UnlikeSchemes()
    graph = Folding(bale, folded)
    return first_from_ends(graph, graph.starts())


def symmetric(bale):
    """The first strip of a bale that is equal to its mirrored strip, or None."""
    graph = Symmetry(bale)
    return first_from_ends(graph, graph.starts())


class Folding:
    """A bale whose strips are read from both ends, and a bale of folds that is read with it.

    A node has a place of the bale (module ends), and the state of the fold.
    """

    def __init__(self, bale, folded):
        rows, goods = firm_of(folded)
        columns = bale.scheme.columns
        self.scheme = bale.scheme
        self._span = Span(bale)
        self._rows = rows
        self._goods = goods
        self._columns = {front + back: fold(bale.scheme, front + back) for front in columns for back in columns}

    def starts(self):
        """The nodes at which nothing has been read; nothing stands behind a strip."""
        return {(place, 0): "" for place in self._span.begun()}

    def folded_column(self, front, back):
        """The column of the fold where these two columns come to lie on each other."""
        return self._columns[front + back]

    def ways(self, node):
        """The ways of a node."""
        place, state = node
        row = self._rows[state]
        found = []
        for front, back, after in self._span.ways(place):
            column = self.folded_column(front, back)
            if column in row:
                found.append((front, back, (after, row[column])))
        return found

    def closings(self, node):
        """The strings in the middle with which the strip and its fold belong to the bales."""
        place, state = node
        return [""] if self._span.meets(place) and self._goods[state] else []


class Symmetry:
    """A bale of whose strips the same is read from both ends. A node is a place of the bale (module ends)."""

    def __init__(self, bale):
        self.scheme = bale.scheme
        self._span = Span(bale)

    def starts(self):
        """The nodes at which nothing has been read; nothing stands behind a strip."""
        return {place: "" for place in self._span.begun()}

    def ways(self, node):
        """The ways of a node."""
        return [way for way in self._span.ways(node) if way[0] == way[1]]

    def closings(self, node):
        """The strings in the middle with which the strip belongs to the bale."""
        found = [""] if self._span.meets(node) else []
        return found + self._span.middles(node)
