"""Thinning: rows and words that can be left out of a term."""

from unseendials.facts import told_facts
from unseendials.relations import bits
from unseendials.rowforms import high_rows
from unseendials.sureness import term_partings


def _without_row(partings, rows):
    """Return the rows without the first one that can be left out, or None."""
    for at, row in enumerate(rows):
        others = rows[:at] + rows[at + 1:]
        if others and partings.exceeding(row, others) is None:
            return others
    return None


def _without_word(partings, rows):
    """Return the rows without the first word that can be left out of one, or None."""
    for at, row in enumerate(rows):
        for number in bits(row):
            fewer = row & ~(1 << number)
            # The frame numbers the words in word order.
            if fewer and partings.exceeding(fewer, rows) is None:
                return [*rows[:at], fewer, *rows[at + 1:]]
    return None


def _thinner(partings, rows):
    """Return the rows one step thinner, or None if nothing can be left out."""
    left = _without_row(partings, rows)
    return _without_word(partings, rows) if left is None else left


def thin_rows(term, facts=None):
    """Return the thin rows of the term."""
    partings = term_partings(term, term, told_facts(facts))
    rows = [partings.mask_of(row) for row in high_rows(term)]
    thinner = _thinner(partings, rows)
    while thinner is not None:
        rows = thinner
        thinner = _thinner(partings, rows)
    words = partings.frame.words
    return [[words[at] for at in bits(row)] for row in rows]
