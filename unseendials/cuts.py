"""Cuts: which words of a set can be higher than all others, and truth at a set of words."""

from unseendials.deciding import bearing_world
from unseendials.errors import BadGroups, TooLarge
from unseendials.facts import told_facts
from unseendials.fitting import fitting_tails
from unseendials.partings import Partings
from unseendials.relations import bits
from unseendials.rowforms import high_rows
from unseendials.words import check_words, tail_set, word_ordered

MOST_WORDS = 7
MOST_TAILS = 10


def check_cut_words(words, tail_list, most):
    """Raise BadGroups if there is no word, TooLarge if there are too many words or tails."""
    if len(words) == 0:
        raise BadGroups("")
    if len(word_ordered(words)) > most or len(tail_list) > MOST_TAILS:
        raise TooLarge("words")


def ordered_parts(many):
    """Return all sets of so many numbered things as sums of bits, in the order of cuts."""
    rows = sorted([(len(bits(mask)), bits(mask), mask) for mask in range(1 << many)])
    return [mask for _, _, mask in rows]


def possible_cuts(words, facts):
    """Return the possible cuts of different words that fit the facts, in the order of cuts."""
    partings = Partings(tail_set(words), facts)
    known = word_ordered(words)
    found = []
    for mask in ordered_parts(len(known)):
        cut = [known[at] for at in bits(mask)]
        others = [word for word in known if word not in cut]
        if partings.parting(partings.mask_of(cut), partings.mask_of(others)) is not None:
            found.append(cut)
    return found


def walk_cuts(words, facts=None):
    """Yield the possible cuts of the set of the words in the order of cuts."""
    known = told_facts(facts)
    check_cut_words(words, fitting_tails(words, known), MOST_WORDS)
    for cut in possible_cuts(words, known):
        yield cut


def cut_witness(cut, words, facts=None):
    """Return a world in which the words of the cut are higher than the other words, or None."""
    known = told_facts(facts)
    check_cut_words(words, fitting_tails([*cut, *words], known), MOST_WORDS)
    if not all([word in words for word in cut]):
        return None
    partings = Partings(tail_set(words), known)
    others = word_ordered([word for word in words if word not in cut])
    order = partings.parting(partings.mask_of(word_ordered(cut)), partings.mask_of(others))
    return None if order is None else bearing_world(partings.frame, order, known)


def is_cut(cut, words, facts=None):
    """Return whether the cut is a possible cut of the set of the words."""
    return cut_witness(cut, words, facts) is not None


def true_at(term, cut):
    """Return whether the term is true at the set of the words of the cut."""
    check_words(cut)
    return any([all([word in cut for word in row]) for row in high_rows(term)])
