"""What strict worlds bear, and what holds in all of them."""

from unseendials.bounds import bounded_tails
from unseendials.deciding import MOST_TAILS, outcome_of
from unseendials.facts import told_facts
from unseendials.knots import KnotWorld, knot_world
from unseendials.relations import Frame, Relation


def _strict_frame(tale, facts):
    return Frame(bounded_tails(tale.tail_list(), facts, MOST_TAILS, strict=True), facts, strict=True)


def _bearing_knots(frame, relation, facts):
    """Return the strict world of a relation that compares all words of the frame."""
    if len(frame.words) == 0:
        return KnotWorld(1, {}, {dial: [0] for dial in facts.dial_list()}, facts)
    return knot_world(frame.ranking_of(relation), facts)


def strictly_decide(tale, facts=None):
    """Return a strict world that bears the tale, or a tidy strict refutation of it."""
    known = told_facts(facts)
    frame = _strict_frame(tale, known)
    end = outcome_of(tale, frame)
    return _bearing_knots(frame, end, known) if isinstance(end, Relation) else end


def strictly_possible(tale, facts=None):
    """Return whether some strict world of the facts bears the tale."""
    return isinstance(outcome_of(tale, _strict_frame(tale, told_facts(facts))), Relation)


def strictly_follows(tale, comparison, facts=None):
    """Return whether the comparison holds in each strict world that bears the tale."""
    return not strictly_possible(tale.told(~comparison), facts)


def strict_failing(claim, facts=None):
    """Return a strict world in which the claim fails, or None if there is none."""
    end = strictly_decide(claim.denial(), facts)
    return end if isinstance(end, KnotWorld) else None
