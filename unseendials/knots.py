"""Strict worlds: dials that rise strictly on all rational numbers, told at a few knots."""

from unseendials.bounds import strict_tails
from unseendials.checks import check_places, check_steps
from unseendials.errors import (BadTable, BadWord, BrokenFact, NoPairs, NoPlace, NotKept, NoTable,
                                TooLarge)
from unseendials.facts import told_facts
from unseendials.ratios import is_less, moved_by, ratio
from unseendials.strictness import broken_by
from unseendials.words import dials_of, is_point, is_small, is_word


def _check_tables(tables, knots):
    for dial, table in tables.items():
        strictly = all([table[at] < table[at + 1] for at in range(len(table) - 1)])
        if not is_small(dial) or len(table) != knots or not strictly:
            raise BadTable(dial)


def _check_kept(tables, knots, facts):
    for dial in facts.dial_list():
        if dial not in tables:
            raise NoTable(dial)
    shown = {**tables, "1": [(knots + 1) * at for at in range(knots)]}
    for low, high in facts:
        for at in range(knots):
            if shown[low][at] > shown[high][at]:
                raise BrokenFact(low, high, at)


class KnotWorld:
    """Places of points at knots, and tables of dials at the knots 0, 1, 2, .."""

    MOST = 24

    def __init__(self, knots, places, tables, facts=None):
        check_steps(knots, KnotWorld.MOST)
        check_places(places, knots)
        _check_tables(tables, knots)
        self._facts = told_facts(facts)
        if self._facts.paired != "":
            raise NoPairs(self._facts.paired[0])
        _check_kept(tables, knots, self._facts)
        self._knots = knots
        self._places = dict(places)
        self._tables = {dial: list(table) for dial, table in tables.items()}

    @property
    def knots(self):
        """The number of knots."""
        return self._knots

    @property
    def facts(self):
        """The facts that the tables keep."""
        return self._facts

    def point_list(self):
        """Return the points in alphabetical order."""
        return sorted(self._places)

    def dial_list(self):
        """Return the dials in alphabetical order."""
        return sorted(self._tables)

    def knot_of(self, point):
        """Return the knot of the point."""
        if point not in self._places:
            raise NoPlace(point)
        return self._places[point]

    def knot_table(self, dial):
        """Return the table of the dial."""
        return list(self._table(dial))

    def _table(self, dial):
        if dial not in self._tables:
            raise NoTable(dial)
        return self._tables[dial]

    def show(self, dial, number):
        """Return the number that the dial shows at the number."""
        table = self._table(dial)
        bottom = self._knots + 1
        knot = min(max(number[0] // number[1], 0), self._knots - 1)
        beyond = moved_by(number, -knot, 1)
        if beyond[0] < 0 or knot == self._knots - 1:
            return moved_by(beyond, table[knot], bottom)
        climb = ratio((table[knot + 1] - table[knot]) * beyond[0], bottom * beyond[1])
        return moved_by(climb, table[knot], bottom)

    def taken_back(self, dial, number):
        """Return the number at which the dial shows the number."""
        table = self._table(dial)
        bottom = self._knots + 1
        below = [at for at in range(self._knots) if not is_less(number, (table[at], bottom))]
        knot = max(below, default=0)
        beyond = moved_by(number, -table[knot], bottom)
        if len(below) == 0 or knot == self._knots - 1:
            return moved_by(beyond, knot, 1)
        part = ratio(beyond[0] * bottom, beyond[1] * (table[knot + 1] - table[knot]))
        return moved_by(part, knot, 1)

    def __call__(self, word):
        if not is_word(word):
            raise BadWord(word)
        number = (self.knot_of(word[-1]), 1)
        for letter in reversed(word[:-1]):
            number = self.show(letter, number)
        return number


def _knot_number(dial, knot, ranking, facts):
    """Return what the table of the dial has at the knot, in the world of the ranking."""
    many = len(ranking) + 1
    numbers = [knot - many]
    if facts.under("1", dial):
        numbers.append(many * knot)
    for word in ranking.word_list():
        if is_small(word[0]) and facts.under(word[0], dial):
            at = ranking.rank_of(word[1:])
            if at <= knot:
                numbers.append(many * ranking.rank_of(word) + knot - at)
    return max(numbers)


def knot_world(ranking, facts=None):
    """Return the strict world of a strict ranking."""
    known = told_facts(facts)
    words = strict_tails(ranking.word_list(), known)
    if len(ranking) > KnotWorld.MOST:
        raise TooLarge("words")
    rule = broken_by(ranking, known)
    if rule is not None:
        raise NotKept(rule)
    knots = len(ranking)
    places = {word: ranking.rank_of(word) for word in words if is_point(word)}
    dials = sorted(set([*dials_of(words), *known.dial_list()]))
    tables = {dial: [_knot_number(dial, knot, ranking, known) for knot in range(knots)]
              for dial in dials}
    return KnotWorld(knots, places, tables, known)
