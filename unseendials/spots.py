"""Spots: entries of dials and of back dials in one form, to compare them by one rule.

The entry (a, d, e) has the spot (a, False, d, e), and the entry (A, c, r) the spot
(a, True, r, c): across is always a step that a is set to, and up a step that bounds what
a shows there. For a dial this is the step that it shows, so a shows from d on at least e
and up to d at most e. For a back dial a shows up to r at most c, and behind r more than c.
"""

from unseendials.words import is_capital


def spot_of(letter, at, shown):
    """Return the spot (part, back, across, up) of an entry."""
    if is_capital(letter):
        return letter.lower(), True, shown, at
    return letter, False, at, shown


def entry_of(spot):
    """Return the entry of a spot as a tuple (letter, at, shown)."""
    part, back, across, up = spot
    if back:
        return part.upper(), up, across
    return part, across, up


def spots_besides(steps, facts):
    """Return the spots of the entries that always count besides."""
    still = [("1", back, at, at) for back in (False, True) for at in range(steps)]
    grounds = [(dial, False, 0, 0) for dial in facts.paired]
    tops = [(dial, True, steps - 1, steps - 1) for dial in facts.paired]
    return still + grounds + tops


def spots_clash(one, other, facts):
    """Return whether two spots, in this order, break the rule of entries for their kinds."""
    low, back, across, up = one
    high, _, other_across, other_up = other
    if not facts.under(low, high):
        return False
    if back:
        return across < other_across and up >= other_up
    return across <= other_across and up > other_up


def clash_rule(one, other):
    """Return the number of the rule of entries for two spots in this order."""
    return 1 + 2 * int(one[1]) + int(other[1])
