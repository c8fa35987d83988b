"""Sureness: claims that hold in each world, and terms that are nowhere above others."""

from unseendials.bounds import bounded_tails
from unseendials.deciding import MOST_TAILS, bearing_world, decide, possible
from unseendials.facts import told_facts
from unseendials.partings import Partings
from unseendials.rowforms import high_rows, low_rows
from unseendials.worlds import World


def failing_world(claim, facts=None):
    """Return a world in which the claim fails, or None if it is sure."""
    end = decide(claim.denial(), facts)
    return end if isinstance(end, World) else None


def denial_tree(claim, facts=None):
    """Return a refutation of the denial of the claim, or None if the claim is not sure."""
    end = decide(claim.denial(), facts)
    return None if isinstance(end, World) else end


def sure(claim, facts=None):
    """Return whether the claim holds in each world of the facts."""
    return not possible(claim.denial(), facts)


def term_partings(s, t, facts):
    """Return the partings of the tails of both terms; raise an error if these are too large."""
    words = [*s.word_list(), *t.word_list()]
    tail_list = bounded_tails(words, facts, MOST_TAILS)
    for term in (s, t):
        high_rows(term)
        low_rows(term)
    return Partings(tail_list, facts)


def _order_above(partings, s, t):
    """Return an order in which the value of s is greater than that of t, or None."""
    rows = [partings.mask_of(row) for row in high_rows(t)]
    for row in high_rows(s):
        order = partings.exceeding(partings.mask_of(row), rows)
        if order is not None:
            return order
    return None


def term_below(s, t, facts=None):
    """Return whether s is nowhere above t."""
    return _order_above(term_partings(s, t, told_facts(facts)), s, t) is None


def alike(s, t, facts=None):
    """Return whether the two terms have the same value in each world of the facts."""
    partings = term_partings(s, t, told_facts(facts))
    return _order_above(partings, s, t) is None and _order_above(partings, t, s) is None


def parting_world(s, t, facts=None):
    """Return a world in which s has a greater value than t, or None."""
    known = told_facts(facts)
    partings = term_partings(s, t, known)
    order = _order_above(partings, s, t)
    return None if order is None else bearing_world(partings.frame, order, known)
