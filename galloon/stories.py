"""Stories of sheets: what a sheet may have been, step by step, in one world.

Bales stand here with their numbers (module images). The trail of a sheet has, for each
number of letters that it has gone through, the bale of the strips that it may have been
then, as far as what comes before tells.
"""

from galloon.deeds import unfinished
from galloon.images import EMPTY
from galloon.looms import Loom
from galloon.workshops import flattened, woven


class Page:
    """A sheet: the bale with which it was laid, and the plan that it has gone through."""

    def __init__(self, laid, plan):
        self.laid = laid
        self.plan = plan


class Claim:
    """A fact: its number, its word, and what it speaks of.

    A fact about a sheet has the number of letters that the sheet had gone through, and a
    bale. A fact about tools has a dict of the worlds in which it holds instead.
    """

    def __init__(self, number, word, subject, *, time, seen, holding):
        self.number = number
        self.word = word
        self.subject = subject
        self.time = time
        self.seen = seen
        self.holding = holding


class Known:
    """What is known at one time: sheets, facts, the number of the next fact, and the worlds that are left."""

    def __init__(self, pages, claims, number, left):
        self.pages = pages
        self.claims = claims
        self.number = number
        self.left = left


def is_left(images, pages, claims, world):
    """Do all facts about tools hold in a world, and has each sheet a story there?"""
    for claim in claims:
        if claim.holding is not None and world not in claim.holding:
            return False
    for name in pages:
        if not trail(images, pages[name], claims_on(claims, name), world):
            return False
    return True


def claims_on(claims, name):
    """The facts that speak of a sheet."""
    return [claim for claim in claims if claim.seen is not None and claim.subject == name]


def trail(images, page, claims, world):
    """The trail of a sheet in a world, where some facts hold; an empty list if it has no story."""
    found = []
    for time in range(len(page.plan) + 1):
        number = images.after(page.plan[time - 1], world, found[-1]) if time > 0 else page.laid
        for claim in claims:
            if claim.time == time:
                number = images.shared(number, claim.seen)
        if number == EMPTY:
            return []
        found.append(number)
    return found


def beginning(images, page, steps, world, last):
    """The bale of the first strips of the stories along a trail whose last strip belongs to a bale."""
    number = images.shared(steps[-1], last)
    for time in range(len(page.plan) - 1, -1, -1):
        number = images.shared(steps[time], images.before(page.plan[time], world, number))
    return number


def story_loom(images, page, claims, world, begin):
    """The loom, with its frame, that says what the strips of a bale become in stories of a sheet."""
    loom = Loom.identity(images.scheme).on(images.bale_at(begin))
    short = 0
    flips = False
    for time in range(len(page.plan) + 1):
        if time > 0:
            deed = images.deed(page.plan[time - 1], world)
            loom = woven(flattened([deed]), loom, short, flips)
            short = short + deed.short
            flips = flips != deed.flips
        for claim in claims:
            if claim.time == time:
                loom = loom.into(unfinished(images.bale_at(claim.seen), short, flips))
    return loom, short, flips
