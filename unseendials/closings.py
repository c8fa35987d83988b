"""Closings: all that follows from told comparisons step by step, with the reasons."""

from unseendials.bounds import bounded_tails
from unseendials.closingrules import closing_rows
from unseendials.facts import told_facts

MOST_TAILS = 24


def _rule_steps(words, facts, strict):
    """Return for each pair of words what the rules make of it, as (pair, reason)."""
    steps = {}
    for named, given, gives in closing_rows(words, facts, strict):
        rule, a, b = named[:3]
        steps.setdefault(given, []).append((gives, ("rule", rule, a, b, given)))
    return steps


def _derived(words, steps, weak):
    """Return the reasons of all pairs of different words that hold, premises first."""
    reasons = {}
    waiting = [(pair, ("told",)) for pair in weak]
    for word in words:
        waiting.extend(steps.get((word, word), []))
    at = 0
    while at < len(waiting):
        pair, reason = waiting[at]
        at += 1
        p, q = pair
        if p != q and pair not in reasons:
            reasons[pair] = reason
            waiting.extend([((r, q), ("chain", p)) for r in words if (r, p) in reasons])
            waiting.extend([((p, r), ("chain", q)) for r in words if (q, r) in reasons])
            waiting.extend(steps.get(pair, []))
    return reasons


class Closing:
    """The closing of told pairs (p, q), p <= q, over the tails of some words."""

    def __init__(self, words, facts, weak, *, strict=False):
        known = told_facts(facts)
        pairs = [(p, q) for p, q in weak]
        told = [word for pair in pairs for word in pair]
        tail_list = bounded_tails([*words, *told], known, MOST_TAILS, strict=strict)
        self._words = {word: True for word in tail_list}
        self._reasons = _derived(tail_list, _rule_steps(tail_list, known, strict), pairs)

    def holds(self, p, q):
        """Return whether the closing holds p <= q."""
        return (p, q) in self._reasons or (p == q and p in self._words)

    def pair_list(self):
        """Return the pairs of different words that hold, each behind its premises."""
        return list(self._reasons)

    def reason_of(self, p, q):
        """Return why the pair of different words holds, or None if it does not."""
        return self._reasons.get((p, q))


def closing_of(tale, facts=None, *, strict=False):
    """Return the closing of the tale over its tails."""
    told = [(comparison.first, comparison.second) for comparison in tale]
    return Closing(tale.tail_list(), facts, told, strict=strict)
