"""Bounds on tails, behind the fitting of words to facts."""

from unseendials.errors import NoPairs, TooLarge
from unseendials.fitting import fitting_tails


def bounded_tails(words, facts, most, *, pairs=True, strict=False):
    """Return the tail set of the words; raise an error if they do not fit, or are too many.

    With strict neither the words nor the facts may have paired dials.
    """
    tail_list = fitting_tails(words, facts, pairs=pairs and not strict)
    if strict and facts.paired != "":
        raise NoPairs(facts.paired[0])
    if len(tail_list) > most:
        raise TooLarge("words")
    return tail_list
