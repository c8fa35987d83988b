"""Strict orders and strict worlds reckoned straight from their descriptions, with fractions."""

from fractions import Fraction
from math import gcd

from brute import held_in, kept_orders
from helpers import parts_under
from unseendials.words import dials_of, points_of


def is_strict_order(ranks, facts):
    """Return whether an order that keeps the facts is strict, as point [92] words it."""
    led = [word for word in ranks if len(word) > 1]
    return not any(high[0] in parts_under(facts, low[0]) and ranks[low[1:]] < ranks[high[1:]]
                   and ranks[low] >= ranks[high] for low in led for high in led)


def strict_orders(words, facts):
    """Return all strict orders of the tails of the words, as dicts."""
    return [ranks for ranks in kept_orders(words, facts) if is_strict_order(ranks, facts)]


def strictly_bearing(tale, facts):
    """Return the strict orders of the tails of the tale that bear it."""
    return [ranks for ranks in strict_orders(tale.tail_list(), facts)
            if all(held_in(ranks, comparison) for comparison in tale)]


def is_number(pair):
    """Return whether a pair is a rational number in the form of point [94]."""
    return isinstance(pair, tuple) and len(pair) == 2 and pair[1] >= 1 and gcd(*pair) == 1


def fraction_of(pair):
    return Fraction(pair[0], pair[1])


def shown_at(table, number):
    """Return what a dial with this table of knots shows at a fraction."""
    last, scale = len(table) - 1, len(table) + 1
    if number <= 0:
        return Fraction(table[0], scale) + number
    if number >= last:
        return Fraction(table[last], scale) + number - last
    knot = number.numerator // number.denominator
    part = number - knot
    return (1 - part) * Fraction(table[knot], scale) + part * Fraction(table[knot + 1], scale)


def knot_value(world, word):
    """Return the value of a word in a strict world as a fraction."""
    number = Fraction(world.knot_of(word[-1]))
    for letter in reversed(word[:-1]):
        number = shown_at(world.knot_table(letter), number)
    return number


def keeps_at_knots(world, facts):
    """Return whether the tables of a strict world are tables that keep the facts."""
    many = world.knots
    tables = {dial: world.knot_table(dial) for dial in world.dial_list()}
    tables["1"] = [(many + 1) * at for at in range(many)]
    rising = all(len(table) == many and all(one < other for one, other in zip(table, table[1:]))
                 for table in tables.values())
    return rising and all(one <= other for low, high in facts
                          for one, other in zip(tables[low], tables[high]))


def strictly_bears(world, tale, facts):
    """Return whether a strict world is one of the facts, of just these words, and bears the tale."""
    words = tale.tail_list()
    values = {word: knot_value(world, word) for word in words}
    just = (world.point_list() == points_of(words)
            and world.dial_list() == sorted(set(dials_of(words)) | set(facts.dial_list())))
    return (just and world.facts == facts and keeps_at_knots(world, facts)
            and all(held_in(values, comparison) for comparison in tale)
            and all(fraction_of(world(word)) == values[word] for word in words))


def taken_back_at(table, number):
    """Return the fraction at which a dial with this table of knots shows the fraction."""
    last = len(table) - 1
    shown = [Fraction(worth, len(table) + 1) for worth in table]
    if number <= shown[0]:
        return number - shown[0]
    if number >= shown[last]:
        return last + number - shown[last]
    knot = max(at for at in range(last) if shown[at] <= number)
    return knot + (number - shown[knot]) / (shown[knot + 1] - shown[knot])
