"""The desk: it keeps told comparisons and answers claims."""

from unseendials.answers import Answer
from unseendials.comparisons import Comparison, Tale, le
from unseendials.deciding import decide
from unseendials.errors import BadLine, NoPairs, NothingTold, NotOpen, OverRoom, Refused
from unseendials.facts import told_facts
from unseendials.fitting import fitting_tails
from unseendials.lower import LowerPairs
from unseendials.strictly import strictly_decide
from unseendials.trees import Node
from unseendials.words import is_word


def _comparison_of(line):
    """Return the comparison whose written form is the line."""
    parts = line.split(" ")
    if len(parts) != 3 or parts[1] not in ("<=", "<"):
        raise BadLine(line)
    if not is_word(parts[0]) or not is_word(parts[2]):
        raise BadLine(line)
    return Comparison(*parts)


def _copied(comparison):
    return Comparison(comparison.first, comparison.sign, comparison.second)


def _word_pairs(claim):
    """Return (label, u, v) for each word u of U and v of V of each saying, in order."""
    rows = []
    for label in claim.label_list():
        above, below = claim.side_of(label)
        rows.extend([(label, high, low) for high in above for low in below])
    return rows


class Desk:
    """Facts and tells, on plain or on strict dials."""

    ROOM = 12

    def __init__(self, facts=None, *, strict=False):
        self._facts = told_facts(facts)
        self._strict = strict
        if strict and self._facts.paired != "":
            raise NoPairs(self._facts.paired[0])
        self._tells = ()
        self._room = Desk.ROOM

    @staticmethod
    def from_log(facts, lines, *, strict=False):
        """Return a new desk that has been told the lines in order."""
        comparisons = [_comparison_of(line) for line in lines]
        desk = Desk(facts, strict=strict)
        for comparison in comparisons:
            desk.tell(comparison)
        return desk

    @property
    def facts(self):
        """The facts of the desk."""
        return self._facts

    @property
    def strict(self):
        """Whether the dials of the desk are strict ones."""
        return self._strict

    @property
    def room(self):
        """The greatest number of tells."""
        return self._room

    @room.setter
    def room(self, most):
        self.set_room(most)

    def set_room(self, most):
        """Change the greatest number of tells."""
        if not len(self._tells) <= most <= Desk.ROOM:
            raise OverRoom(most)
        self._room = most

    def _decided(self, tale):
        """Return a world that bears the tale, or a refutation of it."""
        if self._strict:
            return strictly_decide(tale, self._facts)
        return decide(tale, self._facts)

    def _bears(self, tells, comparison):
        """Return whether some world bears the tells and the comparison."""
        return not isinstance(self._decided(Tale.listed([*tells, comparison])), Node)

    def tell(self, comparison):
        """Add the comparison to the tells, or refuse it."""
        fitting_tails([comparison.first, comparison.second], self._facts)
        if len(self._tells) >= self._room:
            raise OverRoom(self._room)
        # Too many tails are told by the search itself.
        if not self._bears(self._tells, comparison):
            raise Refused(self._blame_of(comparison))
        self._tells = (*self._tells, _copied(comparison))

    def _blame_of(self, comparison):
        """Return some tells, in order, that refuse the comparison, all of which are needed."""
        kept = self._tells
        at = 0
        while at < len(kept):
            fewer = kept[:at] + kept[at + 1:]
            if self._bears(fewer, comparison):
                at += 1
            else:
                kept = fewer
        return tuple([_copied(tell) for tell in kept])

    def tell_list(self):
        """Return the tells in order."""
        return [_copied(tell) for tell in self._tells]

    def ask(self, claim):
        """Return an answer to the claim."""
        told = Tale.listed(self._tells)
        denied = told + claim.denial()
        other = self._decided(denied)
        if isinstance(other, Node):
            return Answer("sure", (other,))
        told_by = []
        for label, high, low in _word_pairs(claim):
            tree = self._decided(told.told(le(high, low)))
            if not isinstance(tree, Node):
                tale = Tale.listed([*self._tells, le(high, low)], claim.word_list())
                return Answer("open", (self._decided(tale), other))
            told_by.append(((label, high, low), tree))
        return Answer("never", tuple(told_by))

    def deciders(self, claim):
        """Return the comparisons whose telling would make the open claim sure."""
        verdict = self.ask(claim).verdict
        if verdict != "open":
            raise NotOpen(verdict)
        told = Tale.listed(self._tells, claim.word_list())
        words = told.tail_list()
        bearing = LowerPairs(told, self._facts, strict=self._strict)
        failing = LowerPairs(told + claim.denial(), self._facts, strict=self._strict)
        # What is lower in all worlds that fail the claim cannot be at most that in one of them.
        return [le(p, q) for p in words for q in words
                if p != q and failing.holds(q, p) and not bearing.holds(q, p)]

    def bearer(self):
        """Return a bearing world."""
        return self._decided(Tale.listed(self._tells))

    def undo(self):
        """Take the last tell back and return it."""
        if len(self._tells) == 0:
            raise NothingTold()
        last = _copied(self._tells[-1])
        self._tells = self._tells[:-1]
        return last

    def log_lines(self):
        """Return one line for each tell, in order."""
        return [tell.written() for tell in self._tells]
