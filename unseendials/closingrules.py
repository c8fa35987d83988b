"""The rules that a closing keeps: those of rankings, and the fifth one if it is strict."""

from unseendials.rules import rule_rows
from unseendials.words import is_small


def _fifth_rows(words, facts):
    """Return the fifth rule, written out for the words like the rows of rule_rows."""
    led = [word for word in words if is_small(word[0])]
    return [((5, low[0], high[0], high[1:], low[1:]), (high, low), (high[1:], low[1:]))
            for low in led for high in led if facts.under(low[0], high[0])]


def closing_rows(words, facts, strict):
    """Return the rules of closings for the words of a tail set that fits the facts."""
    rows = rule_rows(words, facts)
    return rows + _fifth_rows(words, facts) if strict else rows
