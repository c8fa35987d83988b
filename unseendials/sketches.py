"""Sketches: some settings of dials on a chain that agree with one another."""

from unseendials.checks import check_places, check_steps
from unseendials.errors import BadEntry, Clash, NoPlace
from unseendials.facts import told_facts
from unseendials.spots import clash_rule, entry_of, spot_of, spots_besides, spots_clash
from unseendials.words import is_small
from unseendials.worlds import World


def check_entry(sketch, letter, at, shown):
    """Raise BadEntry if a sketch can have no entry with this letter and these steps."""
    if not is_small(letter) and not sketch.facts.has_pair(letter):
        raise BadEntry(letter, at, shown)
    if not 0 <= at < sketch.steps or not 0 <= shown < sketch.steps:
        raise BadEntry(letter, at, shown)


def _clash_with(spot, spots, facts):
    """Return a clash of the spot with one of the others, or None."""
    for other in spots:
        for first, second in ((spot, other), (other, spot)):
            if spots_clash(first, second, facts):
                return clash_rule(first, second), entry_of(first), entry_of(second)
    return None


class Sketch:
    """A chain with facts, places of points, and entries that agree."""

    def __init__(self, steps, facts=None, *, places=None):
        check_steps(steps, World.MOST)
        told_places = {} if places is None else places
        check_places(told_places, steps)
        self._steps = steps
        self._facts = told_facts(facts)
        self._places = dict(told_places)
        self._entries = []
        self._spots = spots_besides(steps, self._facts)

    @property
    def steps(self):
        """The number of steps of the chain."""
        return self._steps

    @property
    def facts(self):
        """The facts."""
        return self._facts

    def read(self, letter, at, shown):
        """Add an entry behind the others."""
        clash = self.clash_of(letter, at, shown)
        if clash is not None:
            rule, one, other = clash
            raise Clash(rule, one, other)
        if (letter, at, shown) not in self._entries:
            self._entries.append((letter, at, shown))
            self._spots.append(spot_of(letter, at, shown))

    def clash_of(self, letter, at, shown):
        """Return None if the entry can be read, otherwise the parts of a clash."""
        check_entry(self, letter, at, shown)
        return _clash_with(spot_of(letter, at, shown), self._spots, self._facts)

    def entry_list(self):
        """Return the entries in the order of reading."""
        return list(self._entries)

    def twin(self):
        """Return a sketch with the same steps, facts, places and entries."""
        other = Sketch(self._steps, self._facts, places=self._places)
        # The entries agree already, so they need not be read once more.
        other._entries = list(self._entries)
        other._spots = list(self._spots)
        return other

    def place_of(self, point):
        """Return the place of the point."""
        if point not in self._places:
            raise NoPlace(point)
        return self._places[point]

    def point_list(self):
        """Return the points in alphabetical order."""
        return sorted(self._places)

    def __len__(self):
        return len(self._entries)

    def __contains__(self, entry):
        return entry in self._entries
