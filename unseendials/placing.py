"""Placing: rankings set on a chain, and the worlds that show them."""

from unseendials.completions import greatest_world, least_world
from unseendials.errors import BadStand, NotKept
from unseendials.facts import told_facts
from unseendials.fitting import fitting_tails, meets_pairs
from unseendials.keeping import broken
from unseendials.sketches import Sketch
from unseendials.words import dials_of, is_point


def _told_steps(ranking, at, edge):
    """Return the steps of the groups; edge is 1 if the ends of the chain are not used."""
    if at is None:
        return tuple(range(edge, len(ranking) + edge))
    return tuple(at)


def _chain_steps(steps, stands, edge):
    """Return the number of steps of the chain."""
    if steps is not None:
        return steps
    # Without any step the chain does not matter: no ranking has so few groups.
    return stands[-1] + 1 + edge if stands else 0


def _check_stands(stands, ranking, many, edge):
    rising = all([stands[at] < stands[at + 1] for at in range(len(stands) - 1)])
    used = all([edge <= stand < many - edge for stand in stands])
    if len(stands) != len(ranking) or not rising or not used:
        raise BadStand(stands)


def ranking_sketch(ranking, facts=None, *, steps=None, at=None):
    """Return the sketch with the places and the entries of the ranking set on a chain."""
    known = told_facts(facts)
    words = fitting_tails(ranking.word_list(), known)
    fault = broken(ranking, known)
    if fault is not None:
        raise NotKept(fault[0])
    edge = 1 if meets_pairs(words, known) else 0
    stands = _told_steps(ranking, at, edge)
    many = _chain_steps(steps, stands, edge)
    _check_stands(stands, ranking, many, edge)
    step_of = {word: stands[ranking.rank_of(word)] for word in words}
    places = {word: step_of[word] for word in words if is_point(word)}
    sketch = Sketch(many, known, places=places)
    for word in words:
        if not is_point(word):
            sketch.read(word[0], step_of[word[1:]], step_of[word])
    return sketch


def ranking_world(ranking, facts=None, *, steps=None, at=None, greatest=False):
    """Return the world of the least, or of the greatest, completion of that sketch."""
    sketch = ranking_sketch(ranking, facts, steps=steps, at=at)
    dials = dials_of(ranking.word_list())
    return greatest_world(sketch, dials) if greatest else least_world(sketch, dials)
