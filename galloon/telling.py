"""Telling worlds apart: strips whose results show in which world they were made."""

from galloon.bales import Bale, firm_of
from galloon.errors import TooMany
from galloon.sameness import first_strips, same
from galloon.schemes import check_alike
from galloon.tables import first_beyond, first_word


def parting(hall, plan, one, two, bale):
    """The first strip of which a plan makes unlike strips in two worlds, and the first of these, or None."""
    first, second = _workshops(hall, plan, [one, two], bale)
    return same(first, second, bale)


def telling(hall, plan, worlds, bale):
    """The first strip of a bale whose result tells which of some worlds it is, or None."""
    workshops = _workshops(hall, plan, worlds, bale)
    different = {world: workshop for world, workshop in zip(worlds, workshops)}
    makers = list(different.values())
    strip = _first_tried(makers, bale)
    return strip if strip is not None else _first_telling(makers, bale)


def mistaken(hall, plan, one, two, bale):
    """The first strip of which a plan makes the same in two worlds, and the first that it makes, or None."""
    first, second = _workshops(hall, plan, [one, two], bale)
    both = first.woven_on(bale) & second.woven_on(bale)
    strip = first_word([[(read, after) for read, _, after in row] for row in both.arcs], both.goods)
    if strip is None:
        return None
    alone = Bale.listed(bale.scheme, [strip])
    return (strip, (first.image(alone) & second.image(alone)).first())


def _workshops(hall, plan, worlds, bale):
    """The workshops of a plan in some worlds; what a function of this module is passed is checked."""
    check_alike(hall, bale)
    # There may be no worlds.
    hall.check_plan(plan)
    return [hall.workshop(plan, world) for world in worlds]


def _first_tried(makers, bale):
    """The first short strip of a bale that tells, or None, also if not all short strips have been tried."""
    for strip in first_strips(bale):
        try:
            if _tells(makers, strip):
                return strip
        except TooMany:
            return None
    return None


def _tells(makers, strip):
    """Does each one make something of a strip, and no two the same?"""
    made = {}
    for maker in makers:
        outs = maker.outs(strip)
        if not outs or any([out in made for out in outs]):
            return False
        made.update({out: True for out in outs})
    return True


def _first_telling(makers, bale):
    """The first strip of a bale of which each one makes something, and no two the same, or None."""
    every = Bale.every(bale.scheme)
    asked = bale
    for maker in makers:
        asked = asked & maker.source(every)
    looms = [maker.woven_on(asked) for maker in makers]
    # One table of all strips of which some two make the same.
    arcs = []
    goods = []
    starts = []
    for at, loom in enumerate(looms):
        for other in looms[:at]:
            both = loom & other
            begin = len(arcs)
            starts.append(begin)
            arcs.extend([[(read, after + begin) for read, _, after in row] for row in both.arcs])
            goods.extend(both.goods)
    return first_beyond(firm_of(asked), (arcs, goods, starts))
