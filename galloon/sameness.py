"""Questions to deeds: do two make the same, is something unsure, lost, unmade or not returned?"""

from galloon.bales import Bale, differing, firm_of
from galloon.ends import LOST, Ends, Span, first_from_ends
from galloon.errors import TooMany
from galloon.questions import first_several, parted, several
from galloon.schemes import check_alike
from galloon.tables import backwards, first_beyond, is_tame_backwards, leap
from galloon.workshops import Workshop

MOST_DEEDS = 5

# So long strips of a bale, and so many of them, are tried before all strips are asked about.
TRIED_LENGTH = 4
MOST_TRIED = 40


def same(first, second, bale):
    """The first strip of a bale of which two deeds make unlike strips, and the first of these, or None."""
    check_alike(first, second)
    check_alike(first, bale)
    strip = _first_tried(first, second, bale)
    if strip is None:
        strip = _first_parted(first, second, bale)
    if strip is None:
        return None
    alone = Bale.listed(bale.scheme, [strip])
    return (strip, differing(first.image(alone), second.image(alone)))


def unsure(deed, bale):
    """The first strip of a bale of which a deed makes several, and the first two of these, or None."""
    check_alike(deed, bale)
    found = several(deed.woven_on(bale))
    if found is None:
        return None
    strip = found[0]
    one, other = first_two(deed.image(Bale.listed(bale.scheme, [strip])))
    return (strip, one, other)


def lost(deed, bale):
    """The first strip that a deed makes of several of a bale, and the first two of these, or None."""
    check_alike(deed, bale)
    out = first_shared([deed.woven_on(bale)], deed.short, deed.flips)
    if out is None:
        return None
    one, other = first_two(deed.source(Bale.listed(bale.scheme, [out])) & bale)
    return (out, one, other)


def unmade(deed, bale, wanted):
    """The first of the wanted strips that a deed makes of no strip of a bale, or None."""
    check_alike(deed, bale)
    check_alike(deed, wanted)
    return first_beyond(firm_of(wanted), _finished_table(deed.woven_on(bale), deed.short, deed.flips))


def not_returned(deed, bale):
    """The first strip of a bale of which a deed does not make just this strip, or None."""
    check_alike(deed, bale)
    apart = same(deed, Workshop(bale.scheme, []), bale)
    return None if apart is None else apart[0]


def idle(workshop, bale):
    """The indexes of the deeds of which each one alone may be left out."""
    check_alike(workshop, bale)
    places = range(len(workshop))
    return [place for place in places if same(workshop, workshop.without(place), bale) is None]


def swappable(workshop, bale):
    """The indexes of the deeds that may be exchanged with the next one, each exchange alone."""
    check_alike(workshop, bale)
    found = []
    for place in range(len(workshop) - 1):
        deeds = list(workshop.deeds)
        deeds[place:place + 2] = [deeds[place + 1], deeds[place]]
        if same(workshop, Workshop(workshop.scheme, deeds), bale) is None:
            found.append(place)
    return found


def fewest(workshop, bale):
    """The indexes of the deeds of a shortest workshop that makes the same, with its deeds in their order."""
    check_alike(workshop, bale)
    if len(workshop) > MOST_DEEDS:
        raise TooMany(MOST_DEEDS)
    for places in lists_by_length(len(workshop))[:-1]:
        shorter = Workshop(workshop.scheme, [workshop.deeds[place] for place in places])
        if same(workshop, shorter, bale) is None:
            return places
    return list(range(len(workshop)))


def lists_by_length(many):
    """All ascending lists of numbers below `many`, the shorter ones first, in the order of lists."""
    found = [[]]
    for number in range(many):
        found = found + [places + [number] for places in found]
    ranked = sorted([(len(places), places) for places in found])
    return [places for _, places in ranked]


def first_shared(looms, short, flips):
    """The first finished strip that looms with this frame together make of several strips, or None."""
    tables = [_read_from_behind(loom) if flips else _read_back(loom) for loom in looms]
    out = first_several(looms[0].scheme, tables)
    if out is None:
        return None
    # What is mirrored has the blanks in front.
    return out[short:] if flips else out[:len(out) - short]


def first_two(bale):
    """The first two strips of a bale that has at least two."""
    one = bale.first()
    return (one, (bale - Bale.listed(bale.scheme, [one])).first())


def first_strips(bale):
    """The first strips of a bale, as long as they are short and not many."""
    found = []
    for strip in bale.strips(TRIED_LENGTH):
        if len(found) == MOST_TRIED:
            break
        found.append(strip)
    return found


def _finished_table(loom, short, flips):
    """A loose table (module tables), with its starts, of the finished strips that a loom with this frame makes."""
    arcs = [[(write, after) for _, write, after in row] for row in loom.arcs]
    back = backwards(arcs)
    # What is cut off stands between these states and the good ones.
    ends = leap(back, [state for state, good in enumerate(loom.goods) if good], short)
    if flips:
        return (back, [state == 0 for state in range(len(loom))], ends)
    lasting = set(ends)
    return (arcs, [state in lasting for state in range(len(loom))], [0])


def _read_back(loom):
    """The table of the inverse of a loom (module questions)."""
    arcs = [[(write, read, after) for read, write, after in row] for row in loom.arcs]
    return (arcs, loom.goods, [0])


def _read_from_behind(loom):
    """The table of the mirrored inverse of a loom (module questions)."""
    arcs = [[] for _ in range(len(loom))]
    for state, row in enumerate(loom.arcs):
        for read, write, after in row:
            arcs[after].append((write, read, state))
    starts = [state for state, good in enumerate(loom.goods) if good]
    return (arcs, [state == 0 for state in range(len(loom))], starts)


def _first_tried(first, second, bale):
    """The first short strip of a bale of which two deeds make unlike strips, or None.

    None may also mean that not all short strips have been tried.
    """
    for strip in first_strips(bale):
        try:
            unlike = first.outs(strip) != second.outs(strip)
        except TooMany:
            return None
        if unlike:
            return strip
    return None


def _first_parted(first, second, bale):
    """The first strip of a bale of which two deeds make unlike strips, or None."""
    if first.short != second.short:
        every = Bale.every(bale.scheme)
        return ((first.source(every) | second.source(every)) & bale).first()
    if first.flips != second.flips:
        straight = second if first.flips else first
        flipping = first if first.flips else second
        graph = Facing(straight, flipping, bale)
        return first_from_ends(graph, graph.starts())
    apart = parted(first.woven_on(bale), second.woven_on(bale), bale)
    return None if apart is None else apart[0]


class Facing:
    """A bale and the looms of two deeds, of which only the second one flips, read from both ends at once.

    A node has the places of both looms and of the bale (module ends). Where a node closes
    a string, just one of the two makes some strip of what has been read.
    """

    def __init__(self, straight, flipping, bale):
        self.scheme = bale.scheme
        self._span = Span(bale)
        # Looms may be much smaller for the strips of a bale, but not if the bale itself is hard to read backwards.
        rows, goods = firm_of(bale)
        tame = is_tame_backwards(rows, goods)
        self._straight = Ends(straight.woven_on(bale) if tame else straight.loom())
        self._flipping = Ends(flipping.woven_on(bale) if tame else flipping.loom())
        self._short = straight.short

    def starts(self):
        """For each node that the columns behind the strip lead to the first such columns.

        Blanks are written for these columns, which are cut off; they are not mirrored.
        """
        found = {(self._straight.begun(), self._flipping.begun(), place): "" for place in self._span.begun()}
        for _ in range(self._short):
            longer = {}
            for one, other, place in found:
                for column, before in self._span.backs(place):
                    letter = column + self.scheme.BLANK
                    node = (self._straight.behind(one, letter), self._flipping.behind(other, letter), before)
                    text = column + found[(one, other, place)]
                    if node[:2] != (LOST, LOST):
                        longer[node] = min(text, longer.get(node, text))
            found = longer
        return found

    def ways(self, node):
        """The ways of a node; what one loom writes in front, the other one writes at the back."""
        one, other, place = node
        both = {}
        for front, back, after in self._straight.ways(one):
            both[front + back] = (after, LOST)
        for front, back, after in self._flipping.ways(other):
            letters = front[0] + back[1] + back[0] + front[1]
            both[letters] = (both.get(letters, (LOST, LOST))[0], after)
        reached = {}
        for letters in both:
            reached.setdefault(letters[0] + letters[2], {})[both[letters]] = True
        found = []
        for front, back, onward in self._span.ways(place):
            found.extend([(front, back, (after, beyond, onward)) for after, beyond in reached.get(front + back, {})])
        return found

    def closings(self, node):
        """The strings in the middle with which one of the looms makes something, and the other one does not."""
        one, other, place = node
        found = []
        if self._span.meets(place) and self._straight.meets(one) != self._flipping.meets(other):
            found.append("")
        straight = self._straight.middles(one)
        flipping = self._flipping.middles(other)
        apart = [letter for letter in straight if letter not in flipping]
        apart = apart + [letter for letter in flipping if letter not in straight]
        columns = self._span.middles(place)
        return found + [letter[0] for letter in apart if letter[0] in columns]
