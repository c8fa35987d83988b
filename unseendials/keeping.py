"""Keeping: whether a ranking keeps the facts."""

from unseendials.facts import told_facts
from unseendials.fitting import fitting_tails
from unseendials.rules import rule_rows


def broken(ranking, facts=None):
    """Return a rule that the ranking breaks, as (rule, a, b, p, q), or None."""
    known = told_facts(facts)
    words = fitting_tails(ranking.word_list(), known)
    ranks = {word: ranking.rank_of(word) for word in words}
    for named, given, gives in rule_rows(words, known):
        if ranks[given[0]] <= ranks[given[1]] and ranks[gives[0]] > ranks[gives[1]]:
            return named
    return None


def keeps(ranking, facts=None):
    """Return whether the ranking keeps the facts."""
    return broken(ranking, facts) is None
