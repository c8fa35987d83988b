"""Value rows: how many choices of values some words have on a chain."""

from math import comb

from unseendials.checks import check_steps
from unseendials.errors import TooLarge
from unseendials.facts import told_facts
from unseendials.fitting import fitting_tails
from unseendials.listings import MOST_TAILS, group_counts
from unseendials.worlds import World


def row_count(counts, steps):
    """Return counts[0] C(steps, 1) + counts[1] C(steps, 2) + .."""
    return sum([many * comb(steps, at + 1) for at, many in enumerate(counts)])


def rows_on(words, facts, steps):
    """Return the number of value rows of the tail set of the words on the chain."""
    known = told_facts(facts)
    if len(fitting_tails(words, known, pairs=False)) > MOST_TAILS:
        raise TooLarge("words")
    counts = group_counts(words, known)
    check_steps(steps, World.MOST)
    return row_count(counts, steps)
