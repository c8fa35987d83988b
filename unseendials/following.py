"""Following: what holds in each world that bears a tale."""

from unseendials.bounds import bounded_tails
from unseendials.comparisons import le, lt
from unseendials.deciding import outcome_of
from unseendials.facts import told_facts
from unseendials.relations import Frame, Relation
from unseendials.solving import Search

MOST_TAILS = 16


def follows(tale, comparison, facts=None):
    """Return whether the comparison follows from the tale."""
    known = told_facts(facts)
    denied = tale.told(~comparison)
    frame = Frame(bounded_tails(denied.tail_list(), known, MOST_TAILS), known)
    return not isinstance(outcome_of(denied, frame), Relation)


class Common:
    """What holds in all orders of the tails that bear a tale."""

    def __init__(self, frame, tale, found):
        self.frame = frame
        self.bars = frame.bars_of(tale)
        self.relation = frame.told_relation(tale)
        # The orders that were met rule out most pairs without a search of their own.
        self.found = [found]

    def always_below(self, one, other):
        """Return whether one is at or below other in all orders."""
        if self.relation.holds(one, other):
            return True
        if not all([relation.holds(one, other) for relation in self.found]):
            return False
        return self._never(other, one, [*self.bars, (one, other)])

    def always_lower(self, one, other):
        """Return whether one is lower than other in all orders."""
        if any([relation.holds(other, one) for relation in self.found]):
            return False
        return self._never(other, one, self.bars)

    def _never(self, one, other, bars):
        """Return whether no order with one at or below other meets none of the bars."""
        end = Search(self.frame, bars).outcome(self.relation.grown(one, other))
        if isinstance(end, Relation):
            self.found.append(end)
            return False
        return True


def _consequence(common, p, q):
    """Return the sharpest comparison of the words that follows, as a list of none or one."""
    one, other = common.frame.pair_of(p, q)
    if common.always_lower(one, other):
        return [lt(p, q)]
    return [le(p, q)] if common.always_below(one, other) else []


def consequences(tale, facts=None):
    """Return for each two different tails, in word order, the comparison that follows, if any."""
    known = told_facts(facts)
    tail_list = bounded_tails(tale.tail_list(), known, MOST_TAILS)
    pairs = [(p, q) for p in tail_list for q in tail_list if p != q]
    frame = Frame(tail_list, known)
    end = outcome_of(tale, frame)
    if not isinstance(end, Relation):
        return [lt(p, q) for p, q in pairs]
    common = Common(frame, tale, end)
    return [row for p, q in pairs for row in _consequence(common, p, q)]
