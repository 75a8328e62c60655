"""The plain twin: the same questions, answered by trying strips, without looms and bales."""

from galloon.errors import BadCount
from galloon.schemes import check_alike
from galloon.strips import shortlex, strips_of

MOST_COLUMNS = 5


def plain_same(first, second, bale, most):
    """The first short strip of a bale of which two deeds make unlike strips, and the first of these, or None."""
    check_alike(first, second)
    check_alike(first, bale)
    _check_most(most)
    for strip in _members(bale, most):
        one = first.played(strip)
        other = second.played(strip)
        if one != other:
            apart = [text for text in one if text not in other] + [text for text in other if text not in one]
            return (strip, shortlex(apart)[0])
    return None


def plain_lost(deed, bale, most):
    """The first strip that a deed makes of several short strips of a bale, and the first two of these, or None."""
    check_alike(deed, bale)
    _check_most(most)
    sources = {}
    for strip in _members(bale, most):
        for out in deed.played(strip):
            sources.setdefault(out, []).append(strip)
    shared = shortlex([out for out in sources if len(sources[out]) > 1])
    if not shared:
        return None
    return (shared[0], sources[shared[0]][0], sources[shared[0]][1])


def plain_images(deed, bale, most):
    """The list of the strips that a deed makes of the short strips of a bale."""
    check_alike(deed, bale)
    _check_most(most)
    return shortlex([out for strip in _members(bale, most) for out in deed.played(strip)])


def plain_now(case, name, most):
    """The list of the last strips of the stories of a sheet that begin with a short strip."""
    told = case.bales_told(name)
    _check_most(most)
    begun = _members(told[0][0], most)
    # Many worlds may have the same deeds for this sheet.
    different = {case.indexes_on(name, world): case.deeds_on(name, world) for world in case.worlds_left()}
    found = []
    for deeds in list(different.values()):
        found.extend(_last_strips(deeds, told, begun))
    return shortlex(found)


def _last_strips(deeds, told, begun):
    """The last strips of the stories that begin with some strips, where it is told what each one must be."""
    texts = _fitting(begun, told[0])
    for deed, bales in zip(deeds, told[1:]):
        made = shortlex([out for text in texts for out in deed.played(text)])
        texts = _fitting(made, bales)
    return texts


def _fitting(texts, bales):
    """The strips of a list that belong to each bale of another one."""
    return [text for text in texts if all([text in bale for bale in bales])]


def _check_most(most):
    """Raise BadCount(most) if strips of so many columns are not tried."""
    if not 0 <= most <= MOST_COLUMNS:
        raise BadCount(most)


def _members(bale, most):
    """The strips of a bale of at most so many columns, found by trying."""
    return [strip for length in range(most + 1) for strip in strips_of(bale.scheme, length) if strip in bale]
