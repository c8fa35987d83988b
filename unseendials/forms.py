"""Forms: the one way to write a term over a set of words."""

from unseendials.cuts import MOST_WORDS, check_cut_words, possible_cuts
from unseendials.errors import NotRanked
from unseendials.facts import told_facts
from unseendials.fitting import fitting_tails
from unseendials.rowforms import high_rows, term_of_rows


def _holds_one(cut, rows):
    """Return whether the cut holds all words of one of the rows."""
    return any([all([word in cut for word in row]) for row in rows])


def form(term, words=None, facts=None):
    """Return the least possible cuts of the words at which the term is true."""
    known = told_facts(facts)
    own = term.word_list()
    over = own if words is None else words
    tail_list = fitting_tails([*own, *over], known)
    if len(over) > 0:
        for word in own:
            if word not in over:
                raise NotRanked(word)
    check_cut_words(over, tail_list, MOST_WORDS)
    rows = high_rows(term)
    found = []
    for cut in possible_cuts(over, known):
        # Cuts with fewer words come first, so a lesser cut has been found already.
        if _holds_one(cut, rows) and not _holds_one(cut, found):
            found.append(cut)
    return found


def form_term(cuts):
    """Return the greatest of the leasts of the cuts."""
    return term_of_rows(cuts)


def parting_cut(s, t, facts=None):
    """Return the first possible cut at which s is true and t is not, or None."""
    known = told_facts(facts)
    words = [*s.word_list(), *t.word_list()]
    check_cut_words(words, fitting_tails(words, known), MOST_WORDS)
    rows = high_rows(s)
    other_rows = high_rows(t)
    for cut in possible_cuts(words, known):
        if _holds_one(cut, rows) and not _holds_one(cut, other_rows):
            return cut
    return None
