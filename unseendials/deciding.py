"""Deciding: a world that bears a tale, or a refutation of it."""

from unseendials.bounds import bounded_tails
from unseendials.checks import check_steps
from unseendials.facts import told_facts
from unseendials.placing import ranking_world
from unseendials.relations import Frame, Relation
from unseendials.solving import Search
from unseendials.walking import refutes
from unseendials.worlds import World

MOST_TAILS = 16
MOST_WALKED = 24


def outcome_of(tale, frame):
    """Return a tidy tree that refutes the tale, or a relation that compares all its tails."""
    return Search(frame, frame.bars_of(tale)).outcome(frame.told_relation(tale))


def bearing_world(frame, relation, facts):
    """Return the world of a relation that compares all words of the frame."""
    if len(frame.words) == 0:
        return World.still(1, {}, facts=facts)
    return ranking_world(frame.ranking_of(relation), facts)


def decide(tale, facts=None):
    """Return a world that bears the tale, or a tidy refutation of it."""
    known = told_facts(facts)
    frame = Frame(bounded_tails(tale.tail_list(), known, MOST_TAILS), known)
    end = outcome_of(tale, frame)
    return bearing_world(frame, end, known) if isinstance(end, Relation) else end


def possible(tale, facts=None):
    """Return whether some world bears the tale."""
    known = told_facts(facts)
    frame = Frame(bounded_tails(tale.tail_list(), known, MOST_TAILS), known)
    return isinstance(outcome_of(tale, frame), Relation)


def is_refutation(node, tale, facts=None, *, steps=None, strict=False):
    """Return whether the tree is a refutation of the tale."""
    known = told_facts(facts)
    tail_list = bounded_tails(tale.tail_list(), known, MOST_WALKED, pairs=steps is None,
                              strict=strict)
    if steps is not None:
        check_steps(steps, World.MOST)
    frame = Frame(tail_list, known, strict=strict)
    return refutes(node, frame, frame.told_relation(tale), frame.bars_of(tale), steps)
