"""Weighing: how many worlds agree with a sketch, and in how many of them a claim holds."""

from unseendials.bounds import bounded_tails
from unseendials.completions import greatest_world, least_world
from unseendials.errors import BadLetter, NoTable, TooLarge
from unseendials.lots import Lot, lots_of
from unseendials.readings import MOST_TAILS, check_points, row_lists
from unseendials.words import dials_of, is_capital, is_small

MOST_STATES = 200


def _check_letters(dials):
    for letter in dials:
        if not is_small(letter):
            raise BadLetter(letter)


def _check_counted(dials, sketch, words):
    """Raise NoTable for the first dial of an entry or of a word that is not counted."""
    read = [letter.lower() for letter, _, _ in sketch.entry_list()]
    for dial in sorted(set([*read, *dials_of(words)])):
        if dial not in dials:
            raise NoTable(dial)


def _most_states(dials, least, greatest):
    """Return the greatest number of states that a lot has at a step."""
    most = 1
    for step in range(least.steps):
        many = 1
        for dial in dials:
            many *= greatest.table_of(dial)[step] - least.table_of(dial)[step] + 1
        most = max(most, many)
    return most


def _counted_lots(sketch, dials):
    """Return the lots of the counted dials; raise TooLarge if one has too many states."""
    least = least_world(sketch, dials)
    greatest = greatest_world(sketch, dials)
    lots = lots_of(sorted(set(dials)), sketch.facts)
    if any([_most_states(lot, least, greatest) > MOST_STATES for lot in lots]):
        raise TooLarge("tables")
    return [Lot(lot, least, greatest) for lot in lots]


def count_worlds(sketch, dials):
    """Return the number of worlds that agree with the sketch."""
    _check_letters(dials)
    _check_counted(dials, sketch, [])
    number = 1
    for lot in _counted_lots(sketch, dials):
        number *= lot.counts([()])[()]
    return number


def _entry_pins(letter, dial, at, shown, last):
    """Return the pins of an entry for the dial of this number."""
    if not is_capital(letter):
        return [(at, dial, shown, shown)]
    # The dial shows at most the step there, and more than it behind.
    behind = [] if shown == last else [(shown + 1, dial, at + 1, last)]
    return [(shown, dial, 0, at), *behind]


def _row_pins(lot, tail_list, rows, last):
    """Return for each row the pins that its entries are for the dials of the lot."""
    led = [(word[0], lot.dials.index(word[0].lower()), tail_list.index(word[1:]), at)
           for at, word in enumerate(tail_list)
           if word[0].lower() in lot.dials]
    return [tuple(sorted({pin for letter, dial, rest, at in led
                          for pin in _entry_pins(letter, dial, row[rest], row[at], last)}))
            for row in rows]


def _holding_rows(claim, tail_list, sketch):
    """Return the rows of the words of the claim at which it holds."""
    denied = [(tail_list.index(one.first), tail_list.index(one.second)) for one in claim.denial()]
    return [row for row in row_lists(tail_list, sketch)
            if any([row[low] >= row[high] for low, high in denied])]


def count_holding(claim, sketch, dials):
    """Return the number of worlds that agree with the sketch in which the claim holds."""
    words = claim.word_list()
    tail_list = bounded_tails(words, sketch.facts, MOST_TAILS)
    _check_letters(dials)
    _check_counted(dials, sketch, words)
    check_points(claim.point_list(), sketch)
    lots = _counted_lots(sketch, dials)
    rows = _holding_rows(claim, tail_list, sketch)
    numbers = [1] * len(rows)
    for lot in lots:
        pins = _row_pins(lot, tail_list, rows, sketch.steps - 1)
        counts = lot.counts(list({row: True for row in pins}))
        numbers = [number * counts[row] for number, row in zip(numbers, pins)]
    return sum(numbers)
