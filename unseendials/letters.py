"""The letters' order: which letter shows at most what another one shows, in each world."""

from unseendials.completions import least_world
from unseendials.errors import BadLetter, NotPaired
from unseendials.facts import told_facts
from unseendials.sketches import Sketch
from unseendials.words import is_capital, is_dial_letter

MOST_STEPS = 3


def _check_letter(letter, facts):
    if letter != "1" and not is_dial_letter(letter):
        raise BadLetter(letter)
    if is_capital(letter) and not facts.has_pair(letter):
        raise NotPaired(letter)


def lies_below(facts, first, second):
    """Return whether first lies below second."""
    known = told_facts(facts)
    for letter in (first, second):
        _check_letter(letter, known)
    low, high = first.lower(), second.lower()
    if is_capital(first) and is_capital(second):
        return known.under(high, low)
    # Dials and back dials are compared by way of the still dial alone.
    if is_capital(first):
        return known.under("1", low) and known.under("1", high)
    if is_capital(second):
        return known.under(low, "1") and known.under(high, "1")
    return known.under(low, high)


def _showing(sketch, letter, at, shown):
    """Return the sketch with one entry more, or None if it cannot be read."""
    if letter == "1":
        return sketch if at == shown else None
    if sketch.clash_of(letter, at, shown) is not None:
        return None
    longer = sketch.twin()
    longer.read(letter, at, shown)
    return longer


def _parting_sketch(sketch, first, second, at):
    """Return the sketch with entries by which first shows more than second, or None."""
    for more in range(1, sketch.steps):
        higher = _showing(sketch, first, at, more)
        if higher is None:
            continue
        for less in range(more):
            both = _showing(higher, second, at, less)
            if both is not None:
                return both
    return None


def letter_against(facts, first, second):
    """Return a world and a step at which first shows more than second, or None."""
    if lies_below(facts, first, second):
        return None
    dials = [letter.lower() for letter in (first, second) if letter != "1"]
    for steps in range(1, MOST_STEPS + 1):
        for at in range(steps):
            parted = _parting_sketch(Sketch(steps, facts), first, second, at)
            if parted is not None:
                return least_world(parted, dials), at
    return None
