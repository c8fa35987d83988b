"""Worlds: a chain with places for points and rising tables for dials."""

from unseendials.checks import check_places, check_steps
from unseendials.errors import (BadTable, BadWord, BrokenFact, NoPlace, NotGrounded, NoTable,
                                Unlike)
from unseendials.facts import told_facts
from unseendials.tables import back_table, greater_table, lesser_table, rising, still_table
from unseendials.words import is_small, is_word


def _check_tables(tables, steps):
    for dial, table in tables.items():
        if not is_small(dial) or len(table) != steps or not rising(table):
            raise BadTable(dial)


def _check_kept(tables, steps, facts):
    for dial in facts.dial_list():
        if dial not in tables:
            raise NoTable(dial)
    shown = {**tables, "1": still_table(steps)}
    for low, high in facts:
        for at in range(steps):
            if shown[low][at] > shown[high][at]:
                raise BrokenFact(low, high, at)
    for dial in facts.paired:
        if tables[dial][0] != 0:
            raise NotGrounded(dial)


def _check_like(one, other):
    same_chain = one.steps == other.steps and place_dict(one) == place_dict(other)
    if not same_chain or one.dial_list() != other.dial_list() or one.facts != other.facts:
        raise Unlike()


def place_dict(world):
    """Return the places of the points of a world, or of a sketch, as a dict."""
    return {point: world.place_of(point) for point in world.point_list()}


def table_dict(world):
    """Return the tables of the dials of a world as a dict."""
    return {dial: world.table_of(dial) for dial in world.dial_list()}


class World:
    """A chain, places of points, and tables of dials that keep the facts."""

    MOST = 60

    def __init__(self, steps, places, tables, facts=None):
        check_steps(steps, World.MOST)
        check_places(places, steps)
        _check_tables(tables, steps)
        self._facts = told_facts(facts)
        _check_kept(tables, steps, self._facts)
        self._steps = steps
        self._places = dict(places)
        self._tables = {dial: list(table) for dial, table in tables.items()}
        self._backs = {dial.upper(): back_table(tables[dial]) for dial in self._facts.paired}

    @staticmethod
    def still(steps, places, *dials, facts=None):
        """Return a world in which the told dials and those of the facts stand still."""
        check_steps(steps, World.MOST)
        tables = {dial: still_table(steps) for dial in [*dials, *told_facts(facts).dial_list()]}
        return World(steps, places, tables, facts)

    @property
    def steps(self):
        """The number of steps of the chain."""
        return self._steps

    @property
    def facts(self):
        """The facts that the tables keep."""
        return self._facts

    def point_list(self):
        """Return the points in alphabetical order."""
        return sorted(self._places)

    def dial_list(self):
        """Return the dials in alphabetical order."""
        return sorted(self._tables)

    def place_of(self, point):
        """Return the place of the point."""
        if point not in self._places:
            raise NoPlace(point)
        return self._places[point]

    def table_of(self, letter):
        """Return the table of a dial or of "1", or the back table of a paired dial."""
        if letter == "1":
            return still_table(self._steps)
        return list(self._shown(letter))

    def _shown(self, letter):
        if letter in self._tables:
            return self._tables[letter]
        if letter in self._backs:
            return self._backs[letter]
        raise NoTable(letter)

    def head_table(self, head):
        """Return the table of the head."""
        table = still_table(self._steps)
        for letter in reversed(head):
            outer = self.table_of(letter)
            table = [outer[shown] for shown in table]
        return table

    def __call__(self, word):
        if not is_word(word):
            raise BadWord(word)
        step = self.place_of(word[-1])
        for letter in reversed(word[:-1]):
            step = self._shown(letter)[step]
        return step

    def placed(self, places):
        """Return the world with just these places."""
        return World(self._steps, places, self._tables, self._facts)

    def moved(self, **places):
        """Return the world with these places, and the old ones for all other points."""
        # The new places are looked at first: an error names the first keyword at fault.
        check_places(places, self._steps)
        return self.placed({**self._places, **places})

    def __and__(self, other):
        _check_like(self, other)
        tables = {dial: lesser_table(self._tables[dial], other.table_of(dial))
                  for dial in self._tables}
        return World(self._steps, self._places, tables, self._facts)

    def __or__(self, other):
        _check_like(self, other)
        tables = {dial: greater_table(self._tables[dial], other.table_of(dial))
                  for dial in self._tables}
        return World(self._steps, self._places, tables, self._facts)

    def __eq__(self, other):
        if not isinstance(other, World):
            return False
        if self._steps != other.steps or self._places != place_dict(other):
            return False
        return self._tables == table_dict(other) and self._facts == other.facts
