"""Reaches: which steps a word can show, as the values of other words and a sketch limit it.

A word that is no point has an entry: its first letter shows, at the step of its rest, the step
of the word. Such entries limit what letters show just as those of the sketch do.
"""

from unseendials.completions import greatest_world, least_world
from unseendials.words import dials_of, is_capital, is_point


def letter_limits(words, sketch):
    """Return for each letter of the words its tables of least and of greatest steps."""
    dials = dials_of(words)
    least = least_world(sketch, dials)
    greatest = greatest_world(sketch, dials)
    limits = {dial: (least.table_of(dial), greatest.table_of(dial)) for dial in dials}
    for dial in sketch.facts.paired:
        # The more a dial shows, the less shows its back dial.
        limits[dial.upper()] = (greatest.table_of(dial.upper()), least.table_of(dial.upper()))
    return limits


def _limits_by(letter, other, facts):
    """Return how an entry of the letter other limits the letter, as two pairs (swapped, shift).

    The first pair is for the least step that is shown, the second one for the greatest; None
    stands for no limit. A limit holds from one number of the entry on, or up to it, and tells
    the other number; if swapped it holds by the second one. To both the shift is added.
    """
    back = is_capital(letter)
    under = facts.under(other.lower(), letter.lower())
    over = facts.under(letter.lower(), other.lower())
    low = high = (False, 0)
    if is_capital(other) != back:
        # A dial shows more than c only behind the last step at which it shows at most c.
        low = (True, 0 if back else 1)
        high = (True, -1 if back else 0)
    rises, falls = (over, under) if back else (under, over)
    return low if rises else None, high if falls else None


def _limit_row(limit, at, shown):
    """Return a limit as the places of its two numbers among the words, and its shift."""
    swapped, shift = limit
    return (shown, at, shift) if swapped else (at, shown, shift)


class Reach:
    """What limits the steps of a word, the earlier words of a tail set having theirs."""

    def __init__(self, word, earlier, limits, facts):
        self._rest = earlier.index(word[1:])
        self._least, self._greatest = limits[word[0]]
        self._lows = []
        self._highs = []
        for at, other in enumerate(earlier):
            if not is_point(other):
                rest = earlier.index(other[1:])
                low, high = _limits_by(word[0], other[0], facts)
                if low is not None:
                    self._lows.append(_limit_row(low, rest, at))
                if high is not None:
                    self._highs.append(_limit_row(high, rest, at))

    def ends_for(self, row):
        """Return the least and the greatest step of the word, for the steps of the earlier ones."""
        step = row[self._rest]
        lows = [row[to] + shift for at, to, shift in self._lows if row[at] + shift <= step]
        highs = [row[to] + shift for at, to, shift in self._highs if row[at] + shift >= step]
        return max([self._least[step], *lows]), min([self._greatest[step], *highs])
