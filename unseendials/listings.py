"""Listings: all rankings of a tail set that keep the facts, in order."""

from unseendials.errors import BadGroups, TooLarge
from unseendials.facts import told_facts
from unseendials.fitting import fitting_tails
from unseendials.rankings import Ranking
from unseendials.rules import rule_rows

MOST_TAILS = 6


def _listed_tails(words, facts):
    """Return the tails of the words; raise an error if they cannot be listed."""
    tail_list = fitting_tails(words, facts)
    if len(tail_list) == 0:
        raise BadGroups("")
    if len(tail_list) > MOST_TAILS:
        raise TooLarge("words")
    return tail_list


def _checks_by_last(words, facts):
    """Return for each word, by its index, the rules of which it is the last word."""
    places = {word: at for at, word in enumerate(words)}
    checks = [[] for _ in words]
    for _, given, gives in rule_rows(words, facts):
        row = [places[word] for word in (*given, *gives)]
        checks[max(row)].append(row)
    return checks


def _keeps_checks(ranks, checks):
    return all([ranks[one] > ranks[other] or ranks[low] <= ranks[high]
                for one, other, low, high in checks])


def _can_be_filled(ranks, many):
    """Return whether the numbers left out below the greatest rank can still be given."""
    missing = max(ranks) + 1 - len(set(ranks))
    return missing <= many - len(ranks)


def rank_lists(words, facts):
    """Return the rank lists, in order, of all rankings of the words that keep the facts.

    The words are those of a tail set, in word order, and fit the facts.
    """
    many = len(words)
    rows = [[]]
    for checks in _checks_by_last(words, facts):
        longer = [[*ranks, rank] for ranks in rows for rank in range(many)]
        rows = [ranks for ranks in longer
                if _can_be_filled(ranks, many) and _keeps_checks(ranks, checks)]
    return rows


def walk_rankings(words, facts=None):
    """Yield the rankings of the tail set of the words that keep the facts."""
    known = told_facts(facts)
    tail_list = _listed_tails(words, known)
    for ranks in rank_lists(tail_list, known):
        yield Ranking.of_ranks(tail_list, ranks)


def group_counts(words, facts=None):
    """Return how many of these rankings have 1, 2, .. groups."""
    known = told_facts(facts)
    tail_list = _listed_tails(words, known)
    counts = [0] * len(tail_list)
    for ranks in rank_lists(tail_list, known):
        counts[max(ranks)] += 1
    return counts
