"""Choices: sets of possible cuts, one for each different term; and failing rows counted."""

from unseendials.bounds import bounded_tails
from unseendials.cuts import check_cut_words, possible_cuts
from unseendials.facts import told_facts
from unseendials.fitting import fitting_tails
from unseendials.forms import form_term
from unseendials.listings import MOST_TAILS, rank_lists
from unseendials.relations import bits
from unseendials.words import check_words, word_ordered

MOST_WORDS = 4


def _is_part(cut, other):
    """Return whether all words of the cut are in the other one."""
    return all([word in other for word in cut])


def _choice_masks(cuts):
    """Return all choices of the proper cuts, which stand in the order of cuts."""
    masks = [0]
    # Cuts with more words come last; taken from there, a cut finds those that have it as a part.
    for at in range(len(cuts) - 1, -1, -1):
        above = sum([1 << more for more in range(at + 1, len(cuts)) if _is_part(cuts[at], cuts[more])])
        masks = masks + [mask | 1 << at for mask in masks if above & ~mask == 0]
    return masks


def _all_choices(words, facts):
    """Return all choices over the words, in order."""
    check_cut_words(words, fitting_tails(words, facts), MOST_WORDS)
    cuts = possible_cuts(words, facts)[1:-1]
    rows = sorted([(len(bits(mask)), bits(mask)) for mask in _choice_masks(cuts)])
    return [[list(cuts[at]) for at in row] for _, row in rows]


def walk_choices(words, facts=None):
    """Yield all choices over the set of the words, in order."""
    for choice in _all_choices(words, told_facts(facts)):
        yield choice


def count_terms(words, facts=None):
    """Return the number of different terms with words of the set."""
    return len(_all_choices(words, told_facts(facts)))


def choice_term(choice, words):
    """Return the term of a choice over the set of the words."""
    check_words([word for cut in choice for word in cut])
    check_words(words)
    cuts = [word_ordered(cut) for cut in choice]
    least = []
    for cut in cuts:
        smaller = [other for other in cuts if other != cut and _is_part(other, cut)]
        if len(smaller) == 0 and cut not in least:
            least.append(cut)
    return form_term(least if least else [word_ordered(words)])


def failing_counts(claim, facts=None):
    """Return how many rankings of 1, 2, .. groups keep the facts and fail the claim."""
    known = told_facts(facts)
    tail_list = bounded_tails(claim.word_list(), known, MOST_TAILS, pairs=False)
    rows = [(tail_list.index(one.first), tail_list.index(one.second)) for one in claim.denial()]
    counts = [0] * len(tail_list)
    for ranks in rank_lists(tail_list, known):
        if all([ranks[low] < ranks[high] for low, high in rows]):
            counts[max(ranks)] += 1
    return counts
