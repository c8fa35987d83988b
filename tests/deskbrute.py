"""What a desk should answer, by listing all orders with ties of the words in question."""

import functools

from brute import claim_holds, held_in, kept_orders
from strictbrute import strict_orders
from unseendials.comparisons import le
from unseendials.facts import Facts
from unseendials.words import tail_set


@functools.lru_cache(maxsize=None)
def _orders(words, pairs, paired, strict):
    facts = Facts.listed(pairs, paired)
    return strict_orders(words, facts) if strict else kept_orders(words, facts)


def orders_of(words, facts, strict):
    """Return all orders of the tails of the words that keep the facts, the strict ones if strict."""
    return _orders(tuple(tail_set(words)), tuple(facts), facts.paired, strict) if words else [{}]


def words_of(tells):
    return [word for tell in tells for word in (tell.first, tell.second)]


def bearing(tells, words, facts, strict):
    """Return the orders of the tails of the tells and of the words that bear the tells."""
    return [ranks for ranks in orders_of(words_of(tells) + words, facts, strict)
            if all(held_in(ranks, tell) for tell in tells)]


def blame_of(tells, comparison, facts, strict):
    """Return the blame, straight from the description; None if the comparison is not refused."""
    def refused(kept):
        return not bearing([*kept, comparison], [], facts, strict)

    if not refused(tells):
        return None
    kept, at = list(tells), 0
    for _ in tells:
        fewer = kept[:at] + kept[at + 1:]
        if refused(fewer):
            kept = fewer
        else:
            at += 1
    return kept


def verdict_of(tells, claim, facts, strict):
    """Return the verdict on a claim."""
    held = {claim_holds(ranks, claim) for ranks in bearing(tells, claim.word_list(), facts, strict)}
    return {(True,): "sure", (False,): "never", (False, True): "open"}[tuple(sorted(held))]


def deciders_of(tells, claim, facts, strict):
    """Return the written forms of the deciders of an open claim, in order."""
    rows = bearing(tells, claim.word_list(), facts, strict)
    words = tail_set(words_of(tells) + claim.word_list())
    found = []
    for p in words:
        for q in words:
            kept = [ranks for ranks in rows if ranks[p] <= ranks[q]]
            if p != q and kept and all(claim_holds(ranks, claim) for ranks in kept):
                found.append(le(p, q).written())
    return found
