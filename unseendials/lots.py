"""Lots: dials that told pairs join, and in how many ways the tables of a lot can be chosen.

The ways are counted along the chain. At each step the dials of a lot have a grid of states,
which tell for each dial a step from its least to its greatest one.
"""


def _joined_dials(dial, facts):
    """Return all dials that told pairs connect with the dial, itself included."""
    found = [dial]
    at = 0
    while at < len(found):
        for pair in facts:
            if found[at] in pair and "1" not in pair:
                found.extend([other for other in pair if other not in found])
        at += 1
    return found


def lots_of(dials, facts):
    """Return the dials, told in alphabetical order, lot by lot."""
    lots = []
    for dial in dials:
        if not any([dial in lot for lot in lots]):
            joined = _joined_dials(dial, facts)
            lots.append([other for other in dials if other in joined])
    return lots


class Grid:
    """The states of the dials of a lot at one step, the last dial changing fastest."""

    def __init__(self, lows, highs, pairs):
        self._lows = lows
        self._highs = highs
        self.states = [[]]
        for low, high in zip(lows, highs):
            self.states = [[*state, shown] for state in self.states
                           for shown in range(low, high + 1)]
        self._strides = []
        stride = 1
        for low, high in list(zip(lows, highs))[::-1]:
            self._strides.insert(0, stride)
            stride *= high - low + 1
        self.climbs = [(stride, [at for at, state in enumerate(self.states) if state[dial] > low])
                       for dial, (stride, low) in enumerate(zip(self._strides, lows))]
        self._kept = [all([state[one] <= state[other] for one, other in pairs])
                      for state in self.states]

    def start(self):
        """Return one way for each state that keeps the facts."""
        return [1 if kept else 0 for kept in self._kept]

    def _nearest(self, state):
        """Return the number of the state of this grid that is nearest to the state."""
        inner = [min(max(shown, low), high)
                 for shown, low, high in zip(state, self._lows, self._highs)]
        return sum([(shown - low) * stride
                    for shown, low, stride in zip(inner, self._lows, self._strides)])

    def nearest_places(self, other):
        """Return for each state the number of the nearest one of the other grid.

        For a state that does not keep the facts it is one more than the other grid has states.
        """
        return [other._nearest(state) if kept else len(other.states)
                for state, kept in zip(self.states, self._kept)]


class Lot:
    """The dials of a lot between their tables in a least and in a greatest world."""

    def __init__(self, dials, least, greatest):
        facts = least.facts
        self.dials = dials
        pairs = [(one, other) for one, low in enumerate(dials) for other, high in enumerate(dials)
                 if one != other and facts.under(low, high)]
        lows = [least.table_of(dial) for dial in dials]
        highs = [greatest.table_of(dial) for dial in dials]
        self._grids = [Grid([table[step] for table in lows], [table[step] for table in highs], pairs)
                       for step in range(least.steps)]
        neighbours = list(zip(self._grids, self._grids[1:]))
        self._onward = [after.nearest_places(before) for before, after in neighbours]
        self._rests = [self._grids[-1].start()]
        for before, after in neighbours[::-1]:
            self._rests.insert(0, _ways_behind(self._rests[0], before, after))

    def _ways_on(self, ways, step):
        """Return the ways for the next step, told those for this one."""
        sums = [*ways, 0]
        for stride, places in self._grids[step].climbs:
            for at in places:
                sums[at] = sums[at] + sums[at - stride]
        return [sums[at] for at in self._onward[step]]

    def counts(self, rows):
        """Return for each row of pins the number of choices of tables that keep it.

        A pin (step, dial, low, high) says that the dial of this number shows at the step
        something from low to high. The pins of a row stand in order, in a tuple.
        """
        found = {}
        self._count(sorted(rows), 0, self._grids[0].start(), 0, found)
        return found

    def _count(self, rows, depth, ways, step, found):
        """Count on from a step for different rows that have their first pins in common."""
        groups = {}
        for row in rows:
            if len(row) == depth:
                found[row] = sum([many * rest for many, rest in zip(ways, self._rests[step])])
            else:
                groups.setdefault(row[depth], []).append(row)
        for pin, alike in groups.items():
            while step < pin[0]:
                ways = self._ways_on(ways, step)
                step += 1
            self._count(alike, depth + 1, self._pinned(ways, pin), step, found)

    def _pinned(self, ways, pin):
        step, dial, low, high = pin
        return [many if low <= state[dial] <= high else 0
                for many, state in zip(ways, self._grids[step].states)]


def _ways_behind(rests, before, after):
    """Return in how many ways each state goes on, told this for the states of the next step."""
    sums = [*rests, 0]
    for stride, places in after.climbs:
        for at in reversed(places):
            sums[at - stride] = sums[at - stride] + sums[at]
    return [sums[at] for at in before.nearest_places(after)]
