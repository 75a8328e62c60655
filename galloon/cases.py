"""Cases: what is known of a hall and of some sheets that go through its tools."""

from galloon.bales import Bale, columns_at, columns_from_end
from galloon.errors import (
    BadIndex,
    BadName,
    BadRow,
    NothingToRedo,
    NothingToUndo,
    NoWorld,
    TakenName,
    TooMany,
    UnknownFact,
    UnknownSheet,
)
from galloon.halls import Hall
from galloon.images import Images
from galloon.sameness import first_shared, first_two, lists_by_length
from galloon.schemes import check_alike
from galloon.stories import Claim, Known, Page, beginning, claims_on, is_left, story_loom, trail
from galloon.workshops import Workshop

MOST_SHEETS = 4
MOST_FACTS = 8
MOST_NAME = 8
NAME_LETTERS = "abcdefghijklmnopqrstuvwxyz"


class Case:
    """Sheets and facts, and which worlds of a hall they leave."""

    def __init__(self, hall):
        self.scheme = hall.scheme
        self._hall = Hall(hall.scheme)
        for letter in hall.letters():
            self._hall.put(letter, hall[letter])
        self._images = Images(self._hall)
        # What was known before the first change and after each one; which of these is in force.
        self._history = [Known({}, [], 0, self._hall.worlds())]
        self._at = 0

    def __len__(self):
        return len(self._history[self._at].claims)

    @property
    def many(self):
        """The number of the worlds that are left."""
        return len(self._history[self._at].left)

    @property
    def past(self):
        """The number of the changes that can be taken back."""
        return self._at

    @property
    def future(self):
        """The number of the changes that can be made again."""
        return len(self._history) - 1 - self._at

    def lay(self, name, bale):
        """Lay a new sheet, which is a strip of a bale."""
        check_alike(self, bale)
        if not 1 <= len(name) <= MOST_NAME or not all([letter in NAME_LETTERS for letter in name]):
            raise BadName(name)
        pages = self._now().pages
        if name in pages:
            raise TakenName(name)
        if len(pages) == MOST_SHEETS:
            raise TooMany(MOST_SHEETS)
        page = Page(self._images.number_of(bale), "")
        self._change({**pages, name: page}, self._now().claims, self._now().number)

    def work(self, name, plan):
        """Send a sheet through a plan."""
        page = self._page(name)
        self._hall.check_letters(plan)
        if len(page.plan + plan) > Workshop.MOST:
            raise TooMany(Workshop.MOST)
        pages = self._now().pages
        longer = Page(page.laid, page.plan + plan)
        self._change({**pages, name: longer}, self._now().claims, self._now().number)

    def see(self, name, bale):
        """Add the fact that a sheet, as it is now, belongs to a bale."""
        check_alike(self, bale)
        time = len(self._page(name).plan)
        return self._add("see", name, time=time, seen=self._images.number_of(bale))

    def recall(self, name, bale):
        """Add the fact that the first strip of a sheet belongs to a bale."""
        check_alike(self, bale)
        self._page(name)
        return self._add("recall", name, seen=self._images.number_of(bale))

    def among(self, letter, indexes):
        """Add the fact that a hidden tool is one of the deeds with these indexes."""
        place = self._place(letter)
        for index in indexes:
            self._check_index(letter, index)
        holding = {world: True for world in self._hall.worlds() if world[place] in indexes}
        return self._add("among", letter, holding=holding)

    def alike(self, one, two, *, unlike=False):
        """Add the fact that two hidden tools are deeds with the same index, or with different ones."""
        first, second = self._place(one), self._place(two)
        worlds = self._hall.worlds()
        holding = {world: True for world in worlds if (world[first] != world[second]) == unlike}
        return self._add("alike", one + two, holding=holding)

    def can(self, plan, before, after, *, never=False):
        """Add the fact that a plan makes one strip of another one, or that it does not."""
        self._hall.check_plan(plan)
        self.scheme.check(before)
        self.scheme.check(after)
        made = {}
        for world in self._images.worlds_apart(plan):
            makes = self._hall.workshop(plan, world).makes(before, after)
            made[self._images.indexes_on(plan, world)] = makes != never
        worlds = self._hall.worlds()
        holding = {world: True for world in worlds if made[self._images.indexes_on(plan, world)]}
        return self._add("can", plan, holding=holding)

    def withdraw(self, number):
        """Remove a fact."""
        claims = self._now().claims
        kept = [claim for claim in claims if claim.number != number]
        if len(kept) == len(claims):
            raise UnknownFact(number)
        self._change(self._now().pages, kept, self._now().number)

    def facts(self):
        """The triples of the number, the word and the subject of all facts."""
        return [(claim.number, claim.word, claim.subject) for claim in self._now().claims]

    def worlds_left(self):
        """The list of the worlds that are left."""
        return list(self._now().left)

    def indexes(self, letter):
        """The indexes that a hidden tool has in some world that is left."""
        place = self._place(letter)
        return sorted({world[place] for world in self._now().left})

    def sheets(self):
        """The names of the sheets in ascending order."""
        return sorted(list(self._now().pages))

    def steps(self, name):
        """The plan of all letters that a sheet has gone through."""
        return self._page(name).plan

    def now(self, name):
        """The bale of the strips that a sheet may be now."""
        return self._joined(self._last_bales(name))

    def origin(self, name):
        """The bale of the strips that a sheet may have been at first."""
        return self.origin_of(name, Bale.every(self.scheme))

    def origin_of(self, name, bale):
        """The bale of the first strips of the stories of a sheet that end in a bale."""
        check_alike(self, bale)
        page = self._page(name)
        last = self._images.number_of(bale)
        worlds = self._now().left
        numbers = [beginning(self._images, page, self._trail(name, world), world, last) for world in worlds]
        return self._joined(self._different(numbers))

    def sure_spot(self, name, row, at, *, from_end=False):
        """The colour that a spot of a sheet surely has now, or None."""
        self._page(name)
        if not 0 <= row < self.scheme.rows:
            raise BadRow(row)
        if at < 0:
            raise BadIndex(at)
        # The bales of the worlds are asked one by one: joined, they may have very many states.
        colours = []
        for bale in self._last_bales(name):
            if len(bale.first()) <= at:
                return None
            columns = columns_from_end(bale, at) if from_end else columns_at(bale, at)
            colours.extend([self.scheme.spots(column)[row] for column in columns])
        return colours[0] if len(set(colours)) == 1 else None

    def verdict(self, name, bale):
        """Does a sheet belong to a bale "always", "never" or "sometimes"?"""
        check_alike(self, bale)
        found = self.now(name)
        if found.within(bale):
            return "always"
        return "sometimes" if found & bale else "never"

    def loss(self, name):
        """The first strip that stories with unlike first strips end with, and the first two of these, or None."""
        page = self._page(name)
        images = self._images
        every = images.number_of(Bale.every(self.scheme))
        different = {images.indexes_on(page.plan, world): world for world in self._now().left}
        looms = []
        for world in list(different.values()):
            begin = beginning(images, page, self._trail(name, world), world, every)
            loom, short, flips = story_loom(images, page, claims_on(self._now().claims, name), world, begin)
            if loom not in looms:
                looms.append(loom)
        out = first_shared(looms, short, flips)
        if out is None:
            return None
        one, other = first_two(self.origin_of(name, Bale.listed(self.scheme, [out])))
        return (out, one, other)

    def refuting(self, world):
        """The numbers of the fewest facts with which alone a world is not left; None if it is left."""
        self._hall.check_world(world)
        self._check_facts()
        return None if world in self._now().left else self._fewest([world])

    def grounds(self, letter, index):
        """The numbers of the fewest facts with which alone a hidden tool is not the deed with an index, or None."""
        place = self._place(letter)
        self._check_index(letter, index)
        self._check_facts()
        if index in self.indexes(letter):
            return None
        return self._fewest([world for world in self._hall.worlds() if world[place] == index])

    def undo(self):
        """Take back the latest change that is in force."""
        if self._at == 0:
            raise NothingToUndo()
        self._at -= 1

    def redo(self):
        """Make the change again that was taken back last."""
        if self._at == len(self._history) - 1:
            raise NothingToRedo()
        self._at += 1

    def twin(self):
        """An independent case in the same state, with the same history."""
        made = Case(self._hall)
        made.take_over(self)
        return made

    def take_over(self, other):
        """Put this case into the state of another one of the same hall, with its history."""
        self._images = other._images
        self._history = list(other._history)
        self._at = other._at

    def bales_told(self, name):
        """For each number of letters that a sheet has gone through the bales to which it belonged then."""
        page = self._page(name)
        found = [[] for _ in range(len(page.plan) + 1)]
        found[0].append(self._images.bale_at(page.laid))
        for claim in claims_on(self._now().claims, name):
            found[claim.time].append(self._images.bale_at(claim.seen))
        return found

    def deeds_on(self, name, world):
        """The list of the deeds that a sheet has gone through in a world."""
        return [self._images.deed(letter, world) for letter in self._page(name).plan]

    def indexes_on(self, name, world):
        """Which of their deeds the tools that a sheet has gone through are in a world."""
        return self._images.indexes_on(self._page(name).plan, world)

    def _now(self):
        """What is known now."""
        return self._history[self._at]

    def _page(self, name):
        """The sheet with a name."""
        pages = self._now().pages
        if name not in pages:
            raise UnknownSheet(name)
        return pages[name]

    def _place(self, letter):
        """The place of a hidden tool in the worlds."""
        self._hall.check_hidden(letter)
        return self._hall.hidden_letters().find(letter)

    def _check_index(self, letter, index):
        """Raise BadIndex(index) if a hidden tool has no deed with this index."""
        if not 0 <= index < len(self._hall.choices(letter)):
            raise BadIndex(index)

    def _check_facts(self):
        """Raise TooMany(8) if there are too many facts to look at all sets of them."""
        if len(self._now().claims) > MOST_FACTS:
            raise TooMany(MOST_FACTS)

    def _trail(self, name, world):
        """The trail of a sheet in a world that is left."""
        return trail(self._images, self._page(name), claims_on(self._now().claims, name), world)

    def _last_bales(self, name):
        """The different bales of the strips that a sheet may be now, each in some world that is left."""
        return self._different([self._trail(name, world)[-1] for world in self._now().left])

    def _different(self, numbers):
        """The different bales with some numbers."""
        return [self._images.bale_at(number) for number in sorted(set(numbers))]

    def _joined(self, bales):
        """The bale of the strips of several bales."""
        found = Bale.none(self.scheme)
        for bale in bales:
            found = found | bale
        return found

    def _add(self, word, subject, *, time=0, seen=None, holding=None):
        """Add a fact and return its number."""
        known = self._now()
        claim = Claim(known.number, word, subject, time=time, seen=seen, holding=holding)
        self._change(known.pages, known.claims + [claim], known.number + 1)
        return known.number

    def _change(self, pages, claims, number):
        """Make a change, which discards those that were taken back; raise NoWorld() if no world is left."""
        worlds = self._hall.worlds()
        left = [world for world in worlds if is_left(self._images, pages, claims, world)]
        if not left:
            raise NoWorld()
        self._history = self._history[:self._at + 1] + [Known(pages, claims, number, left)]
        self._at += 1

    def _fewest(self, worlds):
        """The numbers of the fewest facts with which alone none of some worlds is left."""
        known = self._now()
        for places in lists_by_length(len(known.claims)):
            chosen = [known.claims[place] for place in places]
            if not self._is_any_left(chosen, worlds):
                return [claim.number for claim in chosen]
        return []

    def _is_any_left(self, claims, worlds):
        """Is one of some worlds left with these facts alone?"""
        for world in worlds:
            if is_left(self._images, self._now().pages, claims, world):
                return True
        return False
