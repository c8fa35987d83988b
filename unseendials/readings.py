"""Readings: what words can show in the worlds that agree with a sketch."""

from unseendials.bounds import bounded_tails
from unseendials.completions import greatest_world, least_world
from unseendials.errors import NoPairs, TooLarge
from unseendials.fitting import fitting_tails
from unseendials.reaches import Reach, letter_limits
from unseendials.words import dials_of, is_capital, is_point, points_of

MOST_TAILS = 24
MOST_ROWS = 5000


def check_points(points, sketch):
    """Raise NoPlace for the first of the points that has no place in the sketch."""
    for point in points:
        sketch.place_of(point)


def _value_words(term, sketch):
    """Return the words of the term; raise an error if its least value cannot be told."""
    words = term.word_list()
    for tail in fitting_tails(words, sketch.facts):
        if is_capital(tail[0]):
            raise NoPairs(tail[0])
    check_points(term.point_list(), sketch)
    return words


def least_value(term, sketch):
    """Return the least value of the term in the worlds that agree with the sketch."""
    words = _value_words(term, sketch)
    return term.value_in(least_world(sketch, dials_of(words)))


def greatest_value(term, sketch):
    """Return the greatest value of the term in the worlds that agree with the sketch."""
    words = _value_words(term, sketch)
    return term.value_in(greatest_world(sketch, dials_of(words)))


def _longer_rows(rows, reach):
    """Return the rows with each step that the next word can show behind them."""
    longer = []
    for row in rows:
        low, high = reach.ends_for(row)
        longer.extend([[*row, step] for step in range(low, high + 1)])
        # Each row goes on in some way, so there will not be fewer.
        if len(longer) > MOST_ROWS:
            raise TooLarge("rows")
    return longer


def row_lists(tail_list, sketch):
    """Return the rows of a tail set, in order, as lists of steps in word order."""
    rows = [[]]
    limits = letter_limits(tail_list, sketch)
    for at, word in enumerate(tail_list):
        if is_point(word):
            rows = [[*row, sketch.place_of(word)] for row in rows]
        else:
            rows = _longer_rows(rows, Reach(word, tail_list[:at], limits, sketch.facts))
    return rows


def _all_rows(words, sketch):
    """Return the tail set of the words and its rows."""
    tail_list = bounded_tails(words, sketch.facts, MOST_TAILS)
    check_points(points_of(tail_list), sketch)
    return tail_list, row_lists(tail_list, sketch)


def walk_rows(words, sketch):
    """Yield the rows of the words under the sketch as dicts from words to steps."""
    tail_list, rows = _all_rows(words, sketch)
    for row in rows:
        yield dict(zip(tail_list, row))


def shown_steps(word, sketch):
    """Return the steps that the word can show, in ascending order."""
    _, rows = _all_rows([word], sketch)
    # The word itself is the longest of its tails.
    return sorted({row[-1] for row in rows})
