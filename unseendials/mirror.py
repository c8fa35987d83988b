"""The mirror: heads, claims and made terms read backwards."""

from unseendials.claims import Claim
from unseendials.errors import NotPaired
from unseendials.facts import told_facts
from unseendials.fitting import fitting_tails
from unseendials.rowforms import high_rows, term_of_rows
from unseendials.terms import check_made
from unseendials.turning import turned_letters
from unseendials.words import check_head, is_capital


def backward_head(head, facts=None):
    """Return the head read backwards."""
    known = told_facts(facts)
    check_head(head)
    for letter in head:
        if is_capital(letter) and not known.has_pair(letter):
            raise NotPaired(letter)
    return turned_letters(head[::-1], known)


def _mirrored_side(claim, facts, point, which):
    """Return the words of one side of the mirror's saying for the point."""
    return [backward_head(word[:-1], facts) + label for label in claim.label_list()
            for word in claim.side_of(label)[which] if word[-1] == point]


def mirror_claim(claim, facts=None):
    """Return the mirror of the claim: points become labels, and labels points."""
    known = told_facts(facts)
    fitting_tails(claim.word_list(), known)
    return Claim([(point, _mirrored_side(claim, known, point, 0),
                   _mirrored_side(claim, known, point, 1)) for point in claim.point_list()])


def mirror_term(term, facts=None):
    """Return the made term read backwards."""
    known = told_facts(facts)
    fitting_tails(term.word_list(), known)
    check_made(term)
    return term_of_rows([[backward_head(word[:-1], known) + word[-1] for word in row]
                         for row in high_rows(term)])
