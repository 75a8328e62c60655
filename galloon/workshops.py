"""Workshops: sequences of deeds, which are deeds themselves."""

from galloon.bales import Bale
from galloon.deeds import Deed
from galloon.errors import BadIndex, TooMany, UnlikeSchemes
from galloon.looms import Loom
from galloon.schemes import check_alike


class Workshop(Deed):
    """Deeds that are carried out one after the other."""

    KIND = "workshop"
    MOST = 8

    def __init__(self, scheme, deeds):
        for deed in deeds:
            if deed.scheme != scheme:
                raise UnlikeSchemes()
        if len(deeds) > self.MOST:
            raise TooMany(self.MOST)
        # What `Deed` sets is set here, because `+` makes workshops and an operator runs as little as it can.
        self.scheme = scheme
        self.deeds = list(deeds)
        self.short = sum([deed.short for deed in deeds])
        self.flips = len([deed for deed in deeds if deed.flips]) % 2 == 1
        self._woven = None
        self._backward = None
        # The latest bale that the workshop was woven on, and the loom.
        self._latest = None

    @classmethod
    def of(cls, scheme, *deeds):
        """The workshop of the deeds that are passed."""
        return cls(scheme, list(deeds))

    def __len__(self):
        return len(self.deeds)

    def __add__(self, other):
        check_alike(self, other)
        return Workshop(self.scheme, self.deeds + other.deeds)

    def __str__(self):
        pieces = [str(deed) for deed in flattened(self.deeds)]
        if not pieces:
            return "keep"
        return " ; ".join(pieces)

    def without(self, place):
        """The workshop without the deed at an index."""
        if not 0 <= place < len(self.deeds):
            raise BadIndex(place)
        return Workshop(self.scheme, self.deeds[:place] + self.deeds[place + 1:])

    def loom(self):
        """The loom of the deed: the product of one loom for each deed, in its frame."""
        if self._woven is None:
            self._woven = woven(flattened(self.deeds), Loom.identity(self.scheme), 0, False)
        return self._woven

    def woven_on(self, bale):
        """What the loom of the deed says for the strips of a bale."""
        if self._latest is None or self._latest[0] != bale:
            # The product may be much smaller for these strips than for all.
            loom = woven(flattened(self.deeds), Loom.identity(self.scheme).on(bale), 0, False)
            self._latest = (bale, loom)
        return self._latest[1]

    def outs(self, strip):
        """The list of the strips that the workshop makes of a strip."""
        self.scheme.check(strip)
        found = self._few_outs(strip)
        if found is not None:
            return found
        made = self.image(Bale.listed(self.scheme, [strip]))
        length = len(strip) - self.short
        if made.how_many(length) > Loom.MOST_OUTS:
            raise TooMany(Loom.MOST_OUTS)
        return list(made.strips(length))

    def makes(self, before, after):
        """Does the workshop make the second strip of the first one?"""
        self.scheme.check(before)
        self.scheme.check(after)
        found = self._few_outs(before)
        if found is not None:
            return after in found
        return after in self.image(Bale.listed(self.scheme, [before]))

    def image(self, bale):
        """The bale of all strips that the workshop makes of a strip of the bale."""
        check_alike(self, bale)
        made = bale
        for deed in flattened(self.deeds):
            made = deed.image(made)
        return made

    def source(self, bale):
        """The bale of all strips of which the workshop makes a strip of the bale."""
        check_alike(self, bale)
        needed = bale
        for deed in flattened(self.deeds)[::-1]:
            needed = deed.source(needed)
        return needed

    def played(self, strip):
        """The same list as that of `outs`, found by playing the deeds one after the other.

        An open workshop has its deeds, the index of the next one, the strips for it, and
        what it has made so far. They are kept in a list, because workshops may be nested
        deeply.
        """
        self.scheme.check(strip)
        opened = [(self.deeds, 0, [strip], {})]
        while True:
            deeds, at, texts, made = opened.pop()
            if at == len(deeds):
                if len(texts) > Loom.MOST_OUTS:
                    raise TooMany(Loom.MOST_OUTS)
                if not opened:
                    return sorted(texts)
                opened[-1][3].update({text: True for text in texts})
            elif not texts:
                opened.append((deeds, at + 1, list(made), {}))
            elif isinstance(deeds[at], Workshop):
                opened.append((deeds, at, texts[1:], made))
                opened.append((deeds[at].deeds, 0, texts[:1], {}))
            else:
                for text in texts:
                    made.update({out: True for out in deeds[at].played(text)})
                opened.append((deeds, at, [], made))

    def _few_outs(self, strip):
        """What the workshop makes of a strip, deed by deed; None if there is too much on the way."""
        texts = [strip]
        for deed in flattened(self.deeds):
            found = {}
            for text in texts:
                try:
                    outs = deed.outs(text)
                except TooMany:
                    return None
                found.update({out: True for out in outs})
            if len(found) > Loom.MOST_OUTS:
                return None
            texts = list(found)
        return sorted(texts)


def flattened(deeds):
    """The list of the deeds, where each workshop is replaced by its deeds as often as there is one."""
    found = []
    # Deeds that have not been looked at, the next one last: workshops may be nested deeply.
    waiting = list(reversed(list(deeds)))
    while waiting:
        deed = waiting.pop()
        if isinstance(deed, Workshop):
            waiting.extend(list(reversed(list(deed.deeds))))
        else:
            found.append(deed)
    return found


def woven(parts, begun, short, flips):
    """The product of a loom with this frame and one loom for each deed, none of which is a workshop."""
    loom = begun
    cut_off = short
    mirrors = flips
    for deed in parts:
        step = deed.backward_loom() if mirrors else deed.loom()
        loom = loom * _before_blanks(step, cut_off)
        cut_off = cut_off + deed.short
        mirrors = mirrors != deed.flips
    return loom


def _before_blanks(loom, many):
    """The loom with so many blanks behind it, which it leaves as they are."""
    if many == 0:
        return loom
    scheme = loom.scheme
    behind = len(loom)
    arcs = [row + [(scheme.BLANK, scheme.BLANK, behind)] if good else row for row, good in zip(loom.arcs, loom.goods)]
    arcs = arcs + [[(scheme.BLANK, scheme.BLANK, behind + at)] for at in range(1, many)] + [[]]
    return Loom(scheme, arcs, [False] * (len(arcs) - 1) + [True])
