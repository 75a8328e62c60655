"""Checks that hold for every deed: its loom against plain trying."""

import random

from galloon.bales import Bale
from galloon.deeds import Deed
from galloon.errors import BadStrip, TooMany, UnlikeSchemes
from galloon.looms import Loom
from galloon.schemes import Scheme
from tests.helpers import SCHEMES, check_least_bale, check_least_loom, members, random_rows, words

# How long the strips are of which all are tried.
MOST = {2: 6, 3: 4, 4: 4, 8: 2, 9: 2}


def told_by(deed, strip, call):
    """The list that a call returns, or None if it raises TooMany(200)."""
    try:
        return call(strip)
    except TooMany as error:
        assert error.most == 200
        return None


def made_by(case, deed, most, plain):
    """For each short strip what the deed makes of it; `plain` tells what that must be."""
    made = {}
    for strip in words(deed.scheme, most):
        known = sorted(set(plain(strip)))
        outs, played = told_by(deed, strip, deed.outs), told_by(deed, strip, deed.played)
        wanted = known if len(known) <= 200 else None
        case.assertEqual(outs, wanted, (str(deed), strip))
        case.assertEqual(played, wanted, (str(deed), strip))
        if outs is not None:
            case.assertIs(outs.__class__, list)
            case.assertIs(played.__class__, list)
        made[strip] = known
    return made


def said_by(case, deed, strip):
    """The strips that the loom of a deed says for a strip, without what is cut off, mirrored if it flips."""
    kept = len(strip) - deed.short
    found = []
    for text in deed.loom().image(Bale.listed(deed.scheme, [strip])).strips(len(strip)):
        case.assertEqual(text[kept:], deed.scheme.BLANK * deed.short)
        found.append(text[:kept][::-1] if deed.flips else text[:kept])
    return sorted(found)


def check_deed(case, deed, plain, most=None, seed=1, frame=(0, False)):
    """All methods of a deed agree with what `plain` tells of all short strips."""
    scheme = deed.scheme
    most = MOST[len(scheme)] if most is None else most
    case.assertIsInstance(deed, Deed)
    case.assertEqual((deed.short, deed.flips), frame)
    case.assertIs(deed.flips, frame[1])
    case.assertIsInstance(deed.loom(), Loom)
    case.assertEqual(deed.loom().scheme, scheme)
    check_least_loom(case, deed.loom())
    made = made_by(case, deed, most, plain)
    for strip in made:
        case.assertEqual(said_by(case, deed, strip), made[strip])
    rng = random.Random(seed)
    strips = list(made)
    pairs = [(rng.choice(strips), rng.choice(strips)) for _ in range(60)]
    pairs += [(before, after) for before in strips for after in made[before][:3]][:200]
    for before, after in pairs:
        case.assertIs(deed.makes(before, after), after in made[before], (str(deed), before, after))
    for bale in (Bale.every(scheme), Bale(scheme, *random_rows(rng, scheme, 3)), Bale.none(scheme)):
        image, source = deed.image(bale), deed.source(bale)
        check_least_bale(case, image)
        check_least_bale(case, source)
        known = {after for before in made if before in bale for after in made[before]}
        # Longer images may come from strips that have not been tried.
        known = {after for after in known if len(after) <= most - deed.short}
        case.assertEqual(members(image, most - deed.short), [strip for strip in strips if strip in known])
        known = [before for before in strips if any(after in bale for after in made[before])]
        case.assertEqual(members(source, most), known)
    check_wrong_strips(case, deed)


def check_wrong_strips(case, deed):
    """The errors of the methods of a deed."""
    good = deed.scheme.columns[0]
    for text in ("A", good + "z", " ", "0", good * 30 + "-"):
        case.fails(BadStrip, {"text": text}, deed.outs, text)
        case.fails(BadStrip, {"text": text}, deed.played, text)
        case.fails(BadStrip, {"text": text}, deed.makes, text, "?")
        case.fails(BadStrip, {"text": text}, deed.makes, good, text)
    other = [scheme for scheme in SCHEMES if scheme != deed.scheme][0]
    for bale in (Bale.every(other), Bale.none(other)):
        case.fails(UnlikeSchemes, {}, deed.image, bale)
        case.fails(UnlikeSchemes, {}, deed.source, bale)
    case.assertEqual(deed.scheme, Scheme(deed.scheme.rows, deed.scheme.colours))
