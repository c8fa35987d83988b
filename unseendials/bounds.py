"""Bounds on tails, behind the fitting of words to facts."""

from unseendials.errors import NoPairs, TooLarge
from unseendials.fitting import fitting_tails


def strict_tails(words, facts):
    """Return the tail set of the words; neither they nor the facts may have paired dials."""
    tail_list = fitting_tails(words, facts, pairs=False)
    if facts.paired != "":
        raise NoPairs(facts.paired[0])
    return tail_list


def bounded_tails(words, facts, most, *, pairs=True, strict=False):
    """Return the tail set of the words; raise an error if they do not fit, or are too many.

    With strict neither the words nor the facts may have paired dials.
    """
    tail_list = strict_tails(words, facts) if strict else fitting_tails(words, facts, pairs=pairs)
    if len(tail_list) > most:
        raise TooLarge("words")
    return tail_list
