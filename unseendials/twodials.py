"""Two dials: how a strict world of a claim ranks the words of the claim in two dials."""

from unseendials.codes import code_two
from unseendials.rankings import Ranking
from unseendials.ratios import is_less
from unseendials.words import tail_set


def _stand_of(word, stands, dials, knots_world):
    """Return the pair (block, number) of a coded word; its rest has one in stands."""
    if len(word) == 1:
        return 0, (knots_world.knot_of(word), 1)
    block, number = stands[word[1:]]
    if word[0] == "b":
        return block + 1, number
    number = knots_world.show(dials[block - 1], number)
    if block > 1:
        number = knots_world.taken_back(dials[block - 2], number)
    return block - 1, number


def _is_lower(one, other):
    return one[0] < other[0] or (one[0] == other[0] and is_less(one[1], other[1]))


def two_ranking(claim, knots_world):
    """Return the ranking of the tail set of the words of the claim in two dials."""
    coded = code_two(claim)
    for word in claim.word_list():
        knots_world(word)
    dials = [dial for dial, _ in coded.told_letters]
    words = tail_set(coded.claim.word_list())
    stands = {}
    for word in words:
        stands[word] = _stand_of(word, stands, dials, knots_world)
    different = list({stand: True for stand in stands.values()})
    ranks = {stand: len([other for other in different if _is_lower(other, stand)])
             for stand in different}
    return Ranking.of_ranks(words, [ranks[stands[word]] for word in words])
