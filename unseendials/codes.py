"""Codes: claims turned into claims with one point, one saying, or three or two dials."""

from unseendials.claims import Claim
from unseendials.errors import TooLarge
from unseendials.facts import Facts, told_facts
from unseendials.fitting import fitting_tails
from unseendials.words import SMALL_LETTERS, check_words, dials_of, replace_dials

MOST_DIALS = 4
MOST_AHEAD = 4


class Coded:
    """A coded claim, and by which letters the old points, labels or dials were replaced."""

    def __init__(self, kind, claim, told_letters):
        self.kind = kind
        self.claim = claim
        self.told_letters = tuple([(old, new) for old, new in told_letters])


def _fresh_dials(claim, facts, many):
    """Return so many fresh dials, the first ones in alphabetical order."""
    met = dials_of(claim.word_list()) + facts.dial_list()
    fresh = [letter for letter in SMALL_LETTERS if letter not in met]
    if len(fresh) < many:
        raise TooLarge("letters")
    return fresh[:many]


def _sides(claim):
    """Return the triples of the claim, labels and words in order."""
    return [(label, *claim.side_of(label)) for label in claim.label_list()]


def code_points(claim, facts=None):
    """Return the claim with its points coded: each becomes a dial in front of the point u."""
    known = told_facts(facts)
    fitting_tails(claim.word_list(), known)
    points = claim.point_list()
    dials = dict(zip(points, _fresh_dials(claim, known, len(points))))
    rows = [(label, [word[:-1] + dials[word[-1]] + "u" for word in above],
             [word[:-1] + dials[word[-1]] + "u" for word in below])
            for label, above, below in _sides(claim)]
    return Coded("points", Claim(rows), list(dials.items()))


def code_labels(claim, facts=None):
    """Return the claim with its labels coded: each becomes a dial in front of its words."""
    known = told_facts(facts)
    fitting_tails(claim.word_list(), known)
    labels = claim.label_list()
    dials = dict(zip(labels, _fresh_dials(claim, known, len(labels))))
    rows = [([dials[label] + word for word in above], [dials[label] + word for word in below])
            for label, above, below in _sides(claim)]
    # Too long words are told saying by saying, which the joined sides do not show.
    for above, below in rows:
        check_words([*above, *below])
    coded = Claim.saying([word for above, _ in rows for word in above],
                         [word for _, below in rows for word in below])
    return Coded("labels", coded, list(dials.items()))


def _code_dials(kind, claim, heads):
    """Return the claim with each dial replaced by its head; heads has one for each dial."""
    rows = [(label, [replace_dials(word, heads) for word in above],
             [replace_dials(word, heads) for word in below])
            for label, above, below in _sides(claim)]
    return Coded(kind, Claim(rows), list(heads.items()))


def _coded_dials(claim):
    """Return the dials of the claim; raise an error if they cannot be coded."""
    words = claim.word_list()
    fitting_tails(words, Facts())
    dials = dials_of(words)
    if len(dials) > MOST_DIALS:
        raise TooLarge("dials")
    if any([len(word) > MOST_AHEAD + 1 for word in words]):
        raise TooLarge("letters")
    return dials


def code_three(claim):
    """Return the claim in the three dials a, b and c."""
    heads = {dial: "c" * at + "b" + "a" * at
             for at, dial in enumerate(_coded_dials(claim), start=1)}
    return _code_dials("three", claim, heads)


def code_two(claim):
    """Return the claim in the two dials b and c."""
    heads = {dial: "c" * at + "b" * at for at, dial in enumerate(_coded_dials(claim), start=1)}
    return _code_dials("two", claim, heads)
