"""Solving: a tree that refutes what is told, or a relation that compares all words."""

from unseendials.relations import Relation
from unseendials.trees import Case
from unseendials.walking import refutes


class Search:
    """A search for relations that compare all words of a frame and meet none of the bars."""

    def __init__(self, frame, bars, most=None):
        self.frame = frame
        self.bars = bars
        self.most = most

    def outcome(self, relation):
        """Return a tidy tree that refutes the relation, or else a relation that holds it.

        The relation that is returned compares all words and meets no bar.
        """
        bar = relation.met_bar(self.bars)
        if bar is not None:
            return self.frame.leaf_of(bar)
        forced = []
        end = self._with_forced(relation, forced)
        if isinstance(end, Relation):
            end = self._parted(end)
        if isinstance(end, Relation):
            return end
        for before, one, other, bar in reversed(forced):
            if not self._refuted(end, before):
                end = self._case_of(one, other, self.frame.leaf_of(bar), end)
        return end

    def _case_of(self, one, other, left, right):
        return Case(self.frame.words[one], self.frame.words[other], left, right)

    def _refuted(self, tree, relation):
        # A branch that does not need what its case tells can stand in the place of the case.
        return refutes(tree, self.frame, relation, self.bars, self.most)

    def _with_forced(self, relation, forced):
        """Return the relation with all that is forced, or a tree that refutes this.

        An order of two words is forced if the other order meets a bar at once. The rows of
        forced are (relation, one, other, bar): it was forced there since one <= other met the bar.
        """
        many = -1
        while many < len(forced):
            many = len(forced)
            for one, other in self.frame.pairs:
                if relation.compares(one, other):
                    continue
                left = relation.grown(one, other)
                right = relation.grown(other, one)
                bar = left.met_bar(self.bars)
                back_bar = right.met_bar(self.bars)
                if bar is not None and back_bar is not None:
                    return self._case_of(one, other, self.frame.leaf_of(bar),
                                         self.frame.leaf_of(back_bar))
                if bar is not None:
                    forced.append((relation, one, other, bar))
                    relation = right
                elif back_bar is not None:
                    forced.append((relation, other, one, back_bar))
                    relation = left
        return relation

    def _parted(self, relation):
        """Return the outcome of the two orders of words that are not compared yet, if any."""
        for one, other in self.frame.pairs:
            if not relation.compares(one, other):
                return self._outcome_of_both(relation, one, other)
        return relation

    def _outcome_of_both(self, relation, one, other):
        left = self.outcome(relation.grown(one, other))
        if isinstance(left, Relation) or self._refuted(left, relation):
            return left
        right = self.outcome(relation.grown(other, one))
        if isinstance(right, Relation) or self._refuted(right, relation):
            return right
        return self._case_of(one, other, left, right)
