"""The turn: everything upside down."""

from unseendials.claims import Claim
from unseendials.comparisons import Comparison, Tale
from unseendials.facts import told_facts
from unseendials.fitting import fitting_tails
from unseendials.terms import Greater, Lesser, ThroughTerm, WordTerm
from unseendials.words import partner
from unseendials.worlds import World, place_dict


def turned_letters(text, facts):
    """Return the text with each letter of a paired dial exchanged with its partner."""
    return "".join([partner(letter) if facts.has_pair(letter) else letter for letter in text])


def turn_word(word, facts=None):
    """Return the word turned."""
    known = told_facts(facts)
    fitting_tails([word], known)
    return turned_letters(word, known)


def turn_tale(tale, facts=None):
    """Return the tale turned comparison by comparison, with its words besides turned."""
    known = told_facts(facts)
    fitting_tails(tale.tail_list(), known)
    rows = [Comparison(turned_letters(one.second, known), one.sign,
                       turned_letters(one.first, known)) for one in tale]
    return Tale.listed(rows, [turned_letters(word, known) for word in tale.besides])


def turn_claim(claim, facts=None):
    """Return the claim with the sides of each saying exchanged and their words turned."""
    known = told_facts(facts)
    fitting_tails(claim.word_list(), known)
    rows = []
    for label in claim.label_list():
        above, below = [[turned_letters(word, known) for word in side]
                        for side in claim.side_of(label)]
        rows.append((label, below, above))
    return Claim(rows)


def _turned_term(term, facts):
    if isinstance(term, WordTerm):
        return WordTerm(turned_letters(term.word, facts))
    if isinstance(term, ThroughTerm):
        return ThroughTerm(turned_letters(term.letter, facts), _turned_term(term.inner, facts))
    left = _turned_term(term.left, facts)
    right = _turned_term(term.right, facts)
    return Greater(left, right) if isinstance(term, Lesser) else Lesser(left, right)


def turn_term(term, facts=None):
    """Return the term with & and | exchanged and its letters turned."""
    known = told_facts(facts)
    fitting_tails(term.word_list(), known)
    return _turned_term(term, known)


def turn_world(world):
    """Return the world upside down, with the turned facts."""
    last = world.steps - 1
    facts = world.facts
    tables = {}
    for dial in world.dial_list():
        shown = world.table_of(turned_letters(dial, facts))
        tables[dial] = [last - step for step in shown[::-1]]
    places = {point: last - step for point, step in place_dict(world).items()}
    return World(world.steps, places, tables, facts.turned())
