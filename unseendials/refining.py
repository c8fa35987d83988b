"""Refining: a strict ranking for each ranking that keeps the facts."""

from unseendials.bounds import strict_tails
from unseendials.errors import NotKept
from unseendials.facts import told_facts
from unseendials.keeping import keeps
from unseendials.rankings import Ranking
from unseendials.words import MOST_LETTERS


def _sign(shift):
    """Return 1, -1 or 0: whether the first part of the shift that is not 0 is above it."""
    for part in shift:
        if part != 0:
            return 1 if part > 0 else -1
    return 0


def _stays(dial, shift, facts):
    """Return whether a dial that shows the step itself has to show the shift beside it, too."""
    sign = _sign(shift)
    return (sign > 0 and facts.under("1", dial)) or (sign < 0 and facts.under(dial, "1"))


def _keys(words, ranks, facts):
    """Return for each word its rank and its shift, by which words of one rank are parted.

    Let e be smaller than all else. Each dial is drawn to the still dial by one part in 1 / e.
    So it rises strictly, and what it shows is shifted from the rank by a sum of powers of e. A
    shift lists the numbers that stand beside e, e e, and so on.
    """
    keys = {}
    for word in words:
        if len(word) == 1:
            keys[word] = (ranks[word], (0,) * MOST_LETTERS)
            continue
        rank, shift = keys[word[1:]]
        fall = rank - ranks[word]
        # Beside a step that the dial shows at itself, the facts may keep it from lying flat.
        if fall != 0 or not _stays(word[0], shift, facts):
            shift = (fall, *shift[:-1])
        keys[word] = (ranks[word], shift)
    return keys


def refine(ranking, facts=None):
    """Return a strict ranking that refines the ranking."""
    known = told_facts(facts)
    words = strict_tails(ranking.word_list(), known)
    if not keeps(ranking, known):
        raise NotKept(1)
    keys = _keys(words, {word: ranking.rank_of(word) for word in words}, known)
    numbers = {key: at for at, key in enumerate(sorted(set(list(keys.values()))))}
    return Ranking.of_ranks(words, [numbers[keys[word]] for word in words])
