"""Tables of made terms, and worlds in which dials are replaced by heads."""

from unseendials.facts import Facts
from unseendials.tables import greater_table, lesser_table
from unseendials.terms import Lesser, ThroughTerm, WordTerm, check_made
from unseendials.words import check_heads
from unseendials.worlds import World, place_dict, table_dict


def _term_table(term, head, world):
    """Return the table of the term behind the head."""
    if isinstance(term, WordTerm):
        return world.head_table(head + term.word[:-1])
    if isinstance(term, ThroughTerm):
        return _term_table(term.inner, head + term.letter, world)
    left = _term_table(term.left, head, world)
    right = _term_table(term.right, head, world)
    return lesser_table(left, right) if isinstance(term, Lesser) else greater_table(left, right)


def made_table(term, world):
    """Return the table of a made term in the world."""
    check_made(term)
    return _term_table(term, "", world)


def replaced_world(world, heads):
    """Return the world in which the dials that are keys of heads do what the heads do."""
    check_heads(heads)
    tables = {dial: world.head_table(head) for dial, head in heads.items()}
    return World(world.steps, place_dict(world), {**table_dict(world), **tables},
                 Facts(paired=world.facts.paired))
