"""Partings: orders of words in which some words, the tops, are higher than others, the lows."""

from unseendials.relations import Frame, Relation, bits
from unseendials.solving import Search
from unseendials.walking import refutes


def _reached(order, tops):
    """Return the words that are at or above some top in the order."""
    mask = 0
    for top in bits(tops):
        mask |= order.ups[top]
    return mask


def _missed(order, tops, rows):
    """Return the first of the rows without a word that is lower than all tops, or None."""
    lower = ~_reached(order, tops)
    for row in rows:
        if row & lower == 0:
            return row
    return None


class Partings:
    """Searches for orders that keep the facts; sets of words are told as sums of bits."""

    def __init__(self, words, facts):
        self.frame = Frame(words, facts)
        self._least = self.frame.least_relation()
        # What was found before answers most of the later questions.
        self._orders = []
        self._never = []

    def mask_of(self, words):
        """Return the sum of the bits of different words."""
        return sum([1 << self.frame.numbers[word] for word in words])

    def parting(self, tops, lows):
        """Return an order in which each top is higher than each low, or None."""
        for order in self._orders:
            if _reached(order, tops) & lows == 0:
                return order
        for high, low in self._never:
            if high & ~tops == 0 and low & ~lows == 0:
                return None
        relation, bars = self._told(tops, lows)
        end = Search(self.frame, bars).outcome(relation)
        if isinstance(end, Relation):
            self._orders.append(end)
            return end
        self._never.append(self._needed(end, tops, lows))
        return None

    def _told(self, tops, lows):
        """Return the relation and the bars that tell each low to be lower than each top."""
        bars = [(top, low) for top in bits(tops) for low in bits(lows)]
        relation = self._least.twin()
        for top, low in bars:
            relation.grow(low, top)
        return relation, bars

    def _needed(self, tree, tops, lows):
        """Return some tops and lows that are enough for the tree to refute their parting."""
        for at in bits(tops | lows):
            kept = ~(1 << at)
            relation, bars = self._told(tops & kept, lows & kept)
            if refutes(tree, self.frame, relation, bars):
                tops &= kept
                lows &= kept
        return tops, lows

    def exceeding(self, row, rows):
        """Return an order in which each of the rows has a word lower than all of row, or None."""
        for order in self._orders:
            if _missed(order, row, rows) is None:
                return order
        if any([other & ~row == 0 for other in rows]):
            return None
        # All other words at once are often low enough; if not, one is tried after the other.
        others = 0
        for other in rows:
            others |= other & ~row
        order = self.parting(row, others)
        return self._exceeding(row, 0, rows) if order is None else order

    def _exceeding(self, tops, lows, rows):
        order = self.parting(tops, lows)
        missed = None if order is None else _missed(order, tops, rows)
        if missed is None:
            return order
        for at in bits(missed & ~tops):
            found = self._exceeding(tops, lows | 1 << at, rows)
            if found is not None:
                return found
            # From here on this word is looked for among those that are not lower.
            tops |= 1 << at
        return None
