"""Counts of tables: those of the completions of a sketch, and all of them."""

from math import comb

from unseendials.checks import check_steps
from unseendials.completions import greatest_world, least_world
from unseendials.errors import BadLetter
from unseendials.words import is_small
from unseendials.worlds import World


def _next_ways(ways, floor, top):
    """Return how many lists end with each number when one more number is added to them."""
    total = 0
    longer = []
    for number, many in enumerate(ways):
        total += many
        longer.append(total if floor <= number <= top else 0)
    return longer


def count_between(low, high):
    """Return how many lists never fall and lie, place by place, between two lists."""
    # The empty list counts as one that ends with the lowest number.
    ways = [1] + [0] * (World.MOST - 1)
    for floor, top in zip(low, high):
        ways = _next_ways(ways, floor, top)
    return sum(ways)


def count_tables(sketch, dial):
    """Return how many tables the dial has in the completions of the sketch."""
    if not is_small(dial):
        raise BadLetter(dial)
    for pair in sketch.facts:
        if dial in pair and not all([part in (dial, "1") for part in pair]):
            raise BadLetter(dial)
    least = least_world(sketch, [dial]).table_of(dial)
    return count_between(least, greatest_world(sketch, [dial]).table_of(dial))


def _rising_many(steps):
    return comb(2 * steps - 1, steps)


def _lowest_many(steps):
    return comb(2 * steps, steps) // (steps + 1)


def tables_on(steps):
    """Return the number of rising tables on the chain."""
    check_steps(steps, World.MOST)
    return _rising_many(steps)


def never_lower_on(steps):
    """Return the number of rising tables on the chain that never lower."""
    check_steps(steps, World.MOST)
    return _lowest_many(steps)


def pairs_on(steps):
    """Return the number of pairs of rising tables of which the first is nowhere higher."""
    check_steps(steps, World.MOST)
    return _rising_many(steps) * _lowest_many(steps)


def grounded_on(steps):
    """Return the number of grounded tables on the chain."""
    check_steps(steps, World.MOST)
    return comb(2 * steps - 2, steps - 1)
