"""Random deeds of every kind, workshops, halls and cases for the tests, and plain ways to follow them."""

from galloon.bales import Bale
from galloon.errors import TooMany
from galloon.halls import Hall, Hidden
from galloon.mends import Once, Rest, Sweep
from galloon.passes import Border, FreePass, Gate, Pass, Stamp, Turn
from galloon.prints import FreePrint, Overprint, Recast
from galloon.shapes import Cut, Mirror
from galloon.workshops import Workshop
from tests.helpers import random_rows, words
from tests.test_fonts import random_font, texts_within
from tests.test_masks import random_mask
from tests.test_passes import random_paint, random_strip
from tests.test_prints import recut
from tests.test_rules import drifting_rule, random_rule

PLAIN_KINDS = (
    "pass", "free", "stamp", "border", "gate", "turn", "once", "sweep", "rest", "print", "letters", "recast",
)
ALL_KINDS = PLAIN_KINDS + ("mirror", "cut")
GATES = ("", "a*", "(ab)*", ".*a", ".?b.*", "..*", "(..)*", "a.*b|b*")
# How long the strips are of which all are tried.
SHORT = {2: 6, 3: 4, 4: 4, 8: 2, 9: 2}


def random_deed(rng, scheme, kinds=ALL_KINDS):
    """A small deed of one of some kinds."""
    return deed_of_kind(rng, scheme, rng.choice(kinds))


def deed_of_kind(rng, scheme, kind):
    """A small deed of one kind."""
    makers = {
        "pass": lambda: Pass(random_paint(rng, scheme), random_mask(rng, 2)),
        "free": lambda: FreePass(random_paint(rng, scheme), gap=rng.randrange(4)),
        "stamp": lambda: random_stamp(rng, scheme),
        "border": lambda: Border(scheme, random_strip(rng, scheme, 0, 2), random_strip(rng, scheme, 0, 2)),
        "gate": lambda: Gate(scheme, rng.choice(GATES)),
        "turn": lambda: Turn(scheme, rng.choice((-1, 0, 1))),
        "once": lambda: Once(random_rule(rng, scheme, 2)),
        "sweep": lambda: Sweep(random_rule(rng, scheme, 2), back=rng.random() < 0.5),
        "rest": lambda: Rest(drifting_rule(rng, scheme, rng.random() < 0.5, 2)),
        "print": lambda: random_overprint(rng, scheme),
        "letters": lambda: FreePrint(random_font(rng, scheme, "AB", 2, 1)),
        "recast": lambda: random_recast(rng, scheme),
        "mirror": lambda: Mirror(scheme),
        "cut": lambda: Cut(scheme, rng.randrange(3), rng.randrange(3)),
        "workshop": lambda: Workshop(scheme, [random_deed(rng, scheme, ALL_KINDS) for _ in range(rng.randrange(3))]),
    }
    return makers[kind]()


def random_stamp(rng, scheme):
    """A stamp of at most three columns."""
    old = random_strip(rng, scheme, 1, 3)
    return Stamp(scheme, old, random_strip(rng, scheme, len(old), len(old)))


def random_overprint(rng, scheme):
    """An overprint of a short text near the front."""
    font = random_font(rng, scheme, "AB", 2, 1)
    return Overprint(font, rng.choice(texts_within(font, 2)), rng.randrange(2))


def random_recast(rng, scheme):
    """A recast between two small fonts."""
    font = random_font(rng, scheme, "AB", 2, 1)
    return Recast(font, recut(rng, font))


def random_bale(rng, scheme):
    """A bale: all strips, some of a table, or a few."""
    choice = rng.randrange(4)
    if choice == 0:
        return Bale.every(scheme)
    if choice == 1:
        return Bale.listed(scheme, [random_strip(rng, scheme, 0, 4) for _ in range(rng.randrange(5))])
    return Bale(scheme, *random_rows(rng, scheme, rng.choice((1, 2, 3)), 0.25))


def random_hidden(rng, scheme, most=4, kinds=PLAIN_KINDS):
    """A hidden deed whose deeds all have one frame: some flip, some cut one column off."""
    frame = rng.randrange(5)
    return Hidden([framed(rng, random_deed(rng, scheme, kinds), frame) for _ in range(rng.randint(1, most))])


def framed(rng, deed, frame):
    """A deed with a mirror, a cut or neither before it or behind it."""
    front = rng.randrange(2)
    extra = {1: Mirror(deed.scheme), 2: Cut(deed.scheme, front, 1 - front)}
    deeds = [deed, extra[frame]] if frame in extra else []
    return Workshop(deed.scheme, rng.sample(deeds, 2)) if deeds else deed


def random_hall(rng, scheme, kinds=ALL_KINDS, tools=3, hidden=0.5, most=3):
    """A hall with a few tools, some of which are hidden."""
    hall = Hall(scheme)
    for letter in rng.sample("ABHXZ", rng.randint(1, tools)):
        if rng.random() < hidden:
            hall[letter] = random_hidden(rng, scheme, most, [kind for kind in kinds if kind in PLAIN_KINDS])
        else:
            hall[letter] = random_deed(rng, scheme, kinds)
    return hall


def followed(deeds, strip):
    """What deeds make of a strip one after the other, without any limit but that of each deed."""
    texts = {strip}
    for deed in deeds:
        texts = {out for text in texts for out in made_of(deed, text)}
    return in_order(texts)


def made_of(deed, strip):
    """What one deed makes of a strip; a workshop is followed deed by deed."""
    return followed(deed.deeds, strip) if isinstance(deed, Workshop) else deed.played(strip)


def in_order(strips):
    """The strips in shortlex order."""
    return sorted(strips, key=lambda strip: (len(strip), strip))


def limited(call, *args):
    """What a call returns, or the limit of the TooMany that it raises."""
    try:
        return call(*args)
    except TooMany as error:
        return ("TooMany", error.most)


def table_of(deed, most):
    """For each short strip the list of the strips that a deed makes of it."""
    return {strip: made_of(deed, strip) for strip in words(deed.scheme, most)}


def first_difference(first, second, bale, most):
    """What `same` must be as far as short strips tell."""
    for strip in words(bale.scheme, most):
        if strip in bale:
            apart = set(made_of(first, strip)) ^ set(made_of(second, strip))
            if apart:
                return (strip, in_order(apart)[0])
    return None


def plans(letters, most):
    """All plans of at most so many letters in shortlex order."""
    found, fresh = [""], [""]
    for _ in range(most):
        fresh = [plan + letter for plan in fresh for letter in letters]
        found += fresh
    return found
