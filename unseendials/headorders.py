"""Orders of heads: what is borne where the mirror of a claim fails, told without the mirror."""

from unseendials.deciding import outcome_of
from unseendials.errors import TooLarge
from unseendials.facts import told_facts
from unseendials.fitting import fitting_tails
from unseendials.mirror import mirror_claim
from unseendials.relations import Frame, Relation

MOST_PAIRS = 16


def _pairs_of(words):
    """Return the pairs (label, head) of tails of the mirror, by label and then by head."""
    # Backwards, the shorter head still is the shorter one, but the letters change places.
    rows = sorted([(word[-1], len(word), word[:-1][::-1]) for word in words])
    return [(label, head) for label, _, head in rows]


def head_order(claim, facts=None):
    """Return an order of heads for the claim, or None if the claim is sure."""
    known = told_facts(facts)
    fitting_tails(claim.word_list(), known, pairs=False)
    denial = mirror_claim(claim, known).denial()
    tail_list = denial.tail_list()
    if len(tail_list) > MOST_PAIRS:
        raise TooLarge("words")
    frame = Frame(tail_list, known)
    end = outcome_of(denial, frame)
    if not isinstance(end, Relation):
        return None
    return [_pairs_of(group) for group in frame.ranking_of(end)]
