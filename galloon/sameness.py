"""Questions to deeds: do two make the same, is something unsure, lost, unmade or not returned?"""

from galloon.bales import Bale, differing
from galloon.ends import LOST, Ends, first_from_ends, steps_inwards
from galloon.errors import TooMany
from galloon.looms import firm_of_loom
from galloon.questions import first_several, parted, several
from galloon.schemes import check_alike
from galloon.workshops import Workshop

MOST_DEEDS = 5

# So long strips of a bale, and so many of them, are tried before all strips are asked about.
TRIED_LENGTH = 4
MOST_TRIED = 40


def same(first, second, bale):
    """The first strip of a bale of which two deeds make unlike strips, and the first of these, or None."""
    check_alike(first, second)
    check_alike(first, bale)
    strip = _first_tried(first, second, bale)
    if strip is None:
        strip = _first_parted(first, second, bale)
    if strip is None:
        return None
    alone = Bale.listed(bale.scheme, [strip])
    return (strip, differing(first.image(alone), second.image(alone)))


def unsure(deed, bale):
    """The first strip of a bale of which a deed makes several, and the first two of these, or None."""
    check_alike(deed, bale)
    found = several(deed.woven_on(bale))
    if found is None:
        return None
    strip = found[0]
    one, other = first_two(deed.image(Bale.listed(bale.scheme, [strip])))
    return (strip, one, other)


def lost(deed, bale):
    """The first strip that a deed makes of several of a bale, and the first two of these, or None."""
    check_alike(deed, bale)
    out = first_shared([deed.woven_on(bale)], deed.short, deed.flips)
    if out is None:
        return None
    one, other = first_two(deed.source(Bale.listed(bale.scheme, [out])) & bale)
    return (out, one, other)


def unmade(deed, bale, wanted):
    """The first of the wanted strips that a deed makes of no strip of a bale, or None."""
    check_alike(deed, bale)
    check_alike(deed, wanted)
    return (wanted - deed.image(bale)).first()


def not_returned(deed, bale):
    """The first strip of a bale of which a deed does not make just this strip, or None."""
    check_alike(deed, bale)
    apart = same(deed, Workshop(bale.scheme, []), bale)
    return None if apart is None else apart[0]


def idle(workshop, bale):
    """The indexes of the deeds of which each one alone may be left out."""
    check_alike(workshop, bale)
    places = range(len(workshop))
    return [place for place in places if same(workshop, workshop.without(place), bale) is None]


def swappable(workshop, bale):
    """The indexes of the deeds that may be exchanged with the next one, each exchange alone."""
    check_alike(workshop, bale)
    found = []
    for place in range(len(workshop) - 1):
        deeds = list(workshop.deeds)
        deeds[place:place + 2] = [deeds[place + 1], deeds[place]]
        if same(workshop, Workshop(workshop.scheme, deeds), bale) is None:
            found.append(place)
    return found


def fewest(workshop, bale):
    """The indexes of the deeds of a shortest workshop that makes the same, with its deeds in their order."""
    check_alike(workshop, bale)
    if len(workshop) > MOST_DEEDS:
        raise TooMany(MOST_DEEDS)
    for places in lists_by_length(len(workshop))[:-1]:
        shorter = Workshop(workshop.scheme, [workshop.deeds[place] for place in places])
        if same(workshop, shorter, bale) is None:
            return places
    return list(range(len(workshop)))


def lists_by_length(many):
    """All ascending lists of numbers below `many`, the shorter ones first, in the order of lists."""
    found = [[]]
    for number in range(many):
        found = found + [places + [number] for places in found]
    ranked = sorted([(len(places), places) for places in found])
    return [places for _, places in ranked]


def first_shared(looms, short, flips):
    """The first finished strip that looms with this frame together make of several strips, or None."""
    out = first_several([~(loom.mirrored() if flips else loom) for loom in looms])
    if out is None:
        return None
    # What is mirrored has the blanks in front.
    return out[short:] if flips else out[:len(out) - short]


def first_two(bale):
    """The first two strips of a bale that has at least two."""
    one = bale.first()
    return (one, (bale - Bale.listed(bale.scheme, [one])).first())


def first_strips(bale):
    """The first strips of a bale, as long as they are short and not many."""
    found = []
    for strip in bale.strips(TRIED_LENGTH):
        if len(found) == MOST_TRIED:
            break
        found.append(strip)
    return found


def _first_tried(first, second, bale):
    """The first short strip of a bale of which two deeds make unlike strips, or None.

    None may also mean that not all short strips have been tried.
    """
    for strip in first_strips(bale):
        try:
            unlike = first.outs(strip) != second.outs(strip)
        except TooMany:
            return None
        if unlike:
            return strip
    return None


def _first_parted(first, second, bale):
    """The first strip of a bale of which two deeds make unlike strips, or None."""
    if first.short != second.short:
        every = Bale.every(bale.scheme)
        return ((first.source(every) | second.source(every)) & bale).first()
    one = first.woven_on(bale)
    other = second.woven_on(bale)
    if first.flips != second.flips:
        graph = Facing(other, one) if first.flips else Facing(one, other)
        return first_from_ends(graph, graph.starts(first.short))
    apart = parted(one, other, bale)
    return None if apart is None else apart[0]


class Facing:
    """Two looms, of which the second one says mirrored strips, read from both ends at once.

    A node has the places of both (module ends). Where a node closes a string, just one
    of the two makes some strip of what has been read.
    """

    def __init__(self, straight, flipping):
        self.scheme = straight.scheme
        self._straight = Ends(firm_of_loom(straight))
        self._flipping = Ends(firm_of_loom(flipping))

    def starts(self, short):
        """For each node that so many columns behind the strip lead to the first such columns.

        Blanks are written for these columns, which are cut off; they are not mirrored.
        """
        found = {(self._straight.begun(), self._flipping.begun()): ""}
        for _ in range(short):
            longer = {}
            for one, other in found:
                for column in self.scheme.columns:
                    letter = column + self.scheme.BLANK
                    node = (_back(self._straight, one, letter), _back(self._flipping, other, letter))
                    text = column + found[(one, other)]
                    if node != (LOST, LOST):
                        longer[node] = min(text, longer.get(node, text))
            found = longer
        return found

    def ways(self, node):
        """The ways of a node; what one loom writes in front, the other one writes at the back."""
        one, other = node
        found = {}
        for front, back, after in steps_inwards(self._straight, one):
            found[front + back] = (after, LOST)
        for front, back, after in steps_inwards(self._flipping, other):
            letters = front[0] + back[1] + back[0] + front[1]
            found[letters] = (found.get(letters, (LOST, LOST))[0], after)
        return list({(letters[0], letters[2], found[letters]): True for letters in found})

    def closings(self, node):
        """The strings in the middle with which one of the looms makes something, and the other one does not."""
        one, other = node
        found = [""] if self._straight.meets(one) != self._flipping.meets(other) else []
        straight = self._straight.fronts(one)
        flipping = self._flipping.fronts(other)
        for letter in {**straight, **flipping}:
            if self._straight.meets_over(one, letter) != self._flipping.meets_over(other, letter):
                found.append(letter[0])
        return found


def _back(ends, place, letter):
    """The place after one more letter at the back."""
    return ends.hoped(place[0], ends.backs(place).get(letter, -1))
