"""Fitting: whether words can be used together with facts."""

from unseendials.errors import NoPairs, NotPaired
from unseendials.words import is_capital, tail_set


def _check_paired(tail_list, facts):
    for tail in tail_list:
        if is_capital(tail[0]) and not facts.has_pair(tail[0]):
            raise NotPaired(tail[0])


def _check_no_pairs(tail_list, facts):
    for tail in tail_list:
        if facts.has_pair(tail[0]):
            raise NoPairs(tail[0])


def fitting_tails(words, facts, *, pairs=True):
    """Return the tail set of the words; raise an error if they do not fit the facts."""
    tail_list = tail_set(words)
    _check_paired(tail_list, facts)
    if not pairs:
        _check_no_pairs(tail_list, facts)
    return tail_list


def meets_pairs(words, facts):
    """Return whether some word has a letter of a paired dial."""
    return any([facts.has_pair(letter) for word in words for letter in word])
