"""Searches: plans that do what is wanted in each world, and tools that do the same."""

from galloon.bales import Bale
from galloon.errors import BadCount, TooMany
from galloon.images import Images
from galloon.sameness import same
from galloon.schemes import check_alike
from galloon.workshops import Workshop

MOST_LETTERS = 4


def least_plan(hall, goal, bale, most):
    """The first plan that does in each world what a deed does of the strips of a bale, or None."""
    check_alike(hall, goal)
    check_alike(hall, bale)
    _check_most(most)
    return _first_doing(hall, "", goal, bale, most)


def plan_between(hall, before, after, most, *, surely=True):
    """The first plan by which one strip surely, or perhaps, becomes another one, or None."""
    _check_most(most)
    hall.scheme.check(before)
    hall.scheme.check(after)
    images = Images(hall)
    worlds = hall.worlds()
    begin = images.number_of(Bale.listed(hall.scheme, [before]))
    end = images.number_of(Bale.listed(hall.scheme, [after]))
    begun = [("", [begin] * len(worlds))]
    seen = {tuple(begun[0][1]): True}
    at = 0
    while at < len(begun):
        plan, numbers = begun[at]
        if surely and all([number == end for number in numbers]):
            return plan
        if not surely and any([after in images.bale_at(number) for number in numbers]):
            return plan
        letters = hall.letters() if len(plan) < most else ""
        for letter in letters:
            onward = [images.after(letter, world, number) for world, number in zip(worlds, numbers)]
            # What an earlier plan has led to in all worlds need not be followed again.
            if tuple(onward) not in seen:
                seen[tuple(onward)] = True
                begun.append((plan + letter, onward))
        at += 1
    return None


def undoing_plan(hall, plan, bale, most):
    """The first plan that takes back in each world what a plan has done of the strips of a bale, or None."""
    check_alike(hall, bale)
    _check_most(most)
    hall.check_letters(plan)
    if len(plan) > MOST_LETTERS:
        raise TooMany(MOST_LETTERS)
    return _first_doing(hall, plan, Workshop(hall.scheme, []), bale, most)


def swaps(hall, bale):
    """The pairs of letters of the hall whose tools may be exchanged in each world."""
    check_alike(hall, bale)
    images = Images(hall)
    letters = hall.letters()
    found = []
    for one, other in [(one, other) for one in letters for other in letters if one < other]:
        if _are_swappable(hall, images.worlds_apart(one + other), one, other, bale):
            found.append((one, other))
    return found


def tool_classes(hall, letter, bale):
    """The lists of the indexes of the deeds of a hidden tool that do the same of the strips of a bale."""
    check_alike(hall, bale)
    hall.check_hidden(letter)
    deeds = hall.choices(letter)
    found = []
    for index, deed in enumerate(deeds):
        alike = [indexes for indexes in found if same(deeds[indexes[0]], deed, bale) is None]
        if alike:
            alike[0].append(index)
        else:
            found.append([index])
    return found


def _check_most(most):
    """Raise BadCount(most) if plans of so many letters are not looked for."""
    if not 0 <= most <= MOST_LETTERS:
        raise BadCount(most)


def _are_swappable(hall, worlds, one, other, bale):
    """Do two tools make the same in either order, in each of some worlds?"""
    for world in worlds:
        if same(hall.workshop(one + other, world), hall.workshop(other + one, world), bale) is not None:
            return False
    return True


def _first_doing(hall, begun, goal, bale, most):
    """The first plan that does, behind another plan, in each world what a deed does, or None.

    A strip that has shown that one plan does not do so will often show it of others.
    """
    images = Images(hall)
    telling = []
    plans = [""]
    at = 0
    while at < len(plans):
        plan = plans[at]
        worlds = images.worlds_apart(begun + plan)
        if all([_is_made(images, begun + plan, worlds, one, other) for one, other in telling]):
            strip = _first_apart(hall, begun + plan, worlds, goal, bale)
            if strip is None:
                return plan
            alone = Bale.listed(hall.scheme, [strip])
            telling.append((images.number_of(alone), images.number_of(goal.image(alone))))
        plans.extend([plan + letter for letter in hall.letters() if len(plan) < most])
        at += 1
    return None


def _is_made(images, plan, worlds, begin, end):
    """Does a plan make one bale of another one in each world?"""
    for world in worlds:
        number = begin
        for letter in plan:
            number = images.after(letter, world, number)
        if number != end:
            return False
    return True


def _first_apart(hall, plan, worlds, goal, bale):
    """A strip of a bale of which a plan does not make in each world what a deed makes, or None."""
    for world in worlds:
        apart = same(hall.workshop(plan, world), goal, bale)
        if apart is not None:
            return apart[0]
    return None
