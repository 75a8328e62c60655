"""Strips that are read from both ends at once, column by column towards the middle.

A node tells where both readings are. Its ways are a list of `(front, back, next)`: one
column from the front, one from the back, and the next node. A node closes strings of at
most one column: such a string may stand in the middle.
"""

from galloon.bales import firm_of
from galloon.looms import firm_of_loom
from galloon.tables import backwards, loosened

# The place of a reading that has got lost.
LOST = (-1, -1)


class Span:
    """A bale whose strips are read from both ends at once.

    A place is a pair of states: the one that is reached from the front, and one from
    which what has been read at the back leads to a good state. There may be several such
    states for one strip, so there are several places.
    """

    def __init__(self, bale):
        rows, goods = firm_of(bale)
        self._rows = rows
        self._into = backwards(loosened(rows))
        self._goods = [state for state, good in enumerate(goods) if good]

    def begun(self):
        """The places at which nothing has been read."""
        return [(0, end) for end in self._goods]

    def backs(self, place):
        """The columns that may come next at the back, each with a place that it leads to."""
        return [(column, (place[0], before)) for column, before in self._into[place[1]]]

    def ways(self, place):
        """One more column at the front, one at the back, and a place to which they lead."""
        row = self._rows[place[0]]
        return [(front, back, (row[front], before)) for front in row for back, before in self._into[place[1]]]

    def meets(self, place):
        """May the front and the back meet here?"""
        return place[0] == place[1]

    def middles(self, place):
        """The columns that may stand between the front and the back."""
        row = self._rows[place[0]]
        return [column for column in row if row[column] == place[1]]


class Ends:
    """A loom whose pairs of strips are read from both ends at once.

    A place is a pair of numbers: the state that is reached from the front, and a set of
    states, all those from which what has been read at the back leads to a good state. So
    there is just one place for each pair of strips.
    """

    def __init__(self, loom):
        rows, goods = firm_of_loom(loom)
        self._rows = rows
        self._into = backwards(loosened(rows))
        self._sets = []
        self._numbers = {}
        self._number_of([state for state, good in enumerate(goods) if good])
        # What has been found so far: steps at the back, what a state leads to, and which places are not lost.
        self._backs = {}
        self._reached = {}
        self._hopes = {}

    def begun(self):
        """The place at which nothing has been read."""
        return self.hoped(0, 0)

    def fronts(self, place):
        """The letters that may come next at the front, each with the state it leads to."""
        return self._rows[place[0]] if place != LOST else {}

    def backs(self, place):
        """The letters that may come next at the back, each with the number of the set it leads to."""
        if place == LOST:
            return {}
        if place[1] not in self._backs:
            self._backs[place[1]] = self._steps_back(place[1])
        return self._backs[place[1]]

    def hoped(self, state, number):
        """The place of a state and a set, or LOST if nothing leads from the state into the set."""
        if (state, number) not in self._hopes:
            reached = self._reach(state)
            self._hopes[(state, number)] = any([other in reached for other in list(self._sets[number])])
        return (state, number) if self._hopes[(state, number)] else LOST

    def behind(self, place, letter):
        """The place after one more letter at the back."""
        steps = self.backs(place)
        return self.hoped(place[0], steps[letter]) if letter in steps else LOST

    def ways(self, place):
        """One more letter at the front, one at the back, and the place to which they lead, if it is not LOST."""
        fronts = self.fronts(place)
        backs = self.backs(place)
        found = [(front, back, self.hoped(fronts[front], backs[back])) for front in fronts for back in backs]
        return [way for way in found if way[2] != LOST]

    def meets(self, place):
        """May the front and the back meet here?"""
        return place != LOST and place[0] in self._sets[place[1]]

    def middles(self, place):
        """The letters that may stand between the front and the back."""
        fronts = self.fronts(place)
        return [letter for letter in fronts if fronts[letter] in self._sets[place[1]]]

    def _number_of(self, states):
        """The number of a set of states."""
        key = tuple(sorted(states))
        if key not in self._numbers:
            self._numbers[key] = len(self._sets)
            self._sets.append({state: True for state in states})
        return self._numbers[key]

    def _steps_back(self, number):
        """The letters that lead into a set, each with the number of the set from which it does."""
        found = {}
        for state in self._sets[number]:
            for letter, before in self._into[state]:
                found.setdefault(letter, []).append(before)
        return {letter: self._number_of(found[letter]) for letter in found}

    def _reach(self, state):
        """A dict of the states to which a state leads."""
        if state not in self._reached:
            found = {state: True}
            waiting = [state]
            while waiting:
                row = self._rows[waiting.pop()]
                fresh = {after: True for after in row.values() if after not in found}
                found.update(fresh)
                waiting.extend(list(fresh))
            self._reached[state] = found
        return self._reached[state]


def first_from_ends(graph, starts):
    """The first strip that leads from a start to a node that closes it, or None.

    `graph` is an object with the methods `ways(node)` and `closings(node)`. `starts` has
    for each start the first of the strings, all of one length, that stand behind the
    strip in front of it; the strip is returned with that string.
    """
    layers = [list(starts)]
    seen = {node: True for node in starts}
    ways = {}
    while layers[-1]:
        latest = layers[-1]
        closed = {node: graph.closings(node) for node in latest}
        for length in (0, 1):
            ends = {node: [text for text in closed[node] if len(text) == length] for node in latest}
            ends = {node: ends[node] for node in ends if ends[node]}
            if ends:
                return _least_strip(_live_layers(layers, ways, ends), ways, ends, starts)
        fresh = {}
        for node in latest:
            ways[node] = graph.ways(node)
            fresh.update({after: True for _, _, after in ways[node] if after not in seen})
        seen.update(fresh)
        layers.append(list(fresh))
    return None


def _live_layers(layers, ways, ends):
    """For each layer a dict of those of its nodes that lead from layer to layer to the ends."""
    found = [ends]
    for layer in layers[-2::-1]:
        following = found[-1]
        found.append({node: True for node in layer if any([way[2] in following for way in ways[node]])})
    return found[::-1]


def _least_strip(live, ways, ends, starts):
    """The first strip along the layers: its front half counts first, then the middle, then the rest.

    The rest is read from the middle on, so from the last layer back to the first one.
    """
    passed = [list(live[0])]
    front = ""
    for following in live[1:]:
        onward = [way for node in passed[-1] for way in ways[node] if way[2] in following]
        column = min([way[0] for way in onward])
        front = front + column
        passed.append(list({way[2]: True for way in onward if way[0] == column}))
    middle = min([text for node in passed[-1] for text in ends[node]])
    kept = {node: True for node in passed[-1] if middle in ends[node]}
    back = ""
    for column, nodes in reversed(list(zip(front, passed))):
        led = [(way[1], node) for node in nodes for way in ways[node] if way[0] == column and way[2] in kept]
        least = min([letter for letter, _ in led])
        back = back + least
        kept = {node: True for letter, node in led if letter == least}
    return front + middle + back + min([starts[node] for node in kept])
