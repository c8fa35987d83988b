"""Strict rankings: a dial that is set to a higher word shows a higher one."""

from unseendials.bounds import bounded_tails, strict_tails
from unseendials.closingrules import closing_rows
from unseendials.errors import BadGroups
from unseendials.facts import told_facts
from unseendials.listings import MOST_TAILS, rank_lists
from unseendials.rankings import Ranking


def broken_rule(words, ranks, facts):
    """Return the number of a rule of strict closings that the ranks break, or None.

    The words are those of a tail set without paired dials; ranks is a dict from them to
    numbers. It is the fifth rule only if the ranking keeps the facts.
    """
    for named, given, gives in closing_rows(words, facts, True):
        if ranks[given[0]] <= ranks[given[1]] and ranks[gives[0]] > ranks[gives[1]]:
            return named[0]
    return None


def broken_by(ranking, facts):
    """Return the number of a rule that a ranking without paired dials breaks, or None."""
    words = ranking.word_list()
    return broken_rule(words, {word: ranking.rank_of(word) for word in words}, facts)


def is_strict(ranking, facts=None):
    """Return whether the ranking keeps the facts and is strict."""
    known = told_facts(facts)
    strict_tails(ranking.word_list(), known)
    return broken_by(ranking, known) is None


def walk_strict(words, facts=None):
    """Yield the strict rankings of the tail set of the words, in the order of walk_rankings."""
    known = told_facts(facts)
    tail_list = bounded_tails(words, known, MOST_TAILS, strict=True)
    if len(tail_list) == 0:
        raise BadGroups("")
    for ranks in rank_lists(tail_list, known):
        if broken_rule(tail_list, dict(zip(tail_list, ranks)), known) is None:
            yield Ranking.of_ranks(tail_list, ranks)
