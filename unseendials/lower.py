"""Lower words: which words are lower than others wherever a possible tale is borne."""

from unseendials.deciding import outcome_of
from unseendials.following import Common
from unseendials.relations import Frame


class LowerPairs:
    """The pairs of tails of a possible tale with p < q in all worlds that bear it."""

    def __init__(self, tale, facts, *, strict):
        self._frame = Frame(tale.tail_list(), facts, strict=strict)
        self._common = Common(self._frame, tale, outcome_of(tale, self._frame))

    def holds(self, p, q):
        """Return whether p is lower than q in all of them."""
        one, other = self._frame.pair_of(p, q)
        return self._common.always_lower(one, other)
