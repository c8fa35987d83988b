"""Relations: closings without reasons, over words told as numbers, for long searches."""

from unseendials.closingrules import closing_rows
from unseendials.rankings import Ranking
from unseendials.trees import Leaf


def bits(mask):
    """Return the places of the ones of a number, lowest first."""
    return [at for at in range(mask.bit_length()) if mask >> at & 1]


class Frame:
    """The words of a tail set, numbered in word order, and the rules of closings for them."""

    def __init__(self, words, facts, *, strict=False):
        self.words = list(words)
        self.numbers = {word: at for at, word in enumerate(self.words)}
        many = len(self.words)
        self.moves = [[[] for _ in range(many)] for _ in range(many)]
        for _, given, gives in closing_rows(self.words, facts, strict):
            one, other = self.pair_of(*given)
            self.moves[one][other].append(self.pair_of(*gives))
        # These pairs decide all others: words that begin alike are compared as their rests are.
        # Neighbours stand first, so that few of them put all words in a row.
        self.pairs = [(one, one + far) for far in range(1, many) for one in range(many - far)
                      if self.words[one][0] != self.words[one + far][0]]

    def pair_of(self, p, q):
        """Return the numbers of two words."""
        return self.numbers[p], self.numbers[q]

    def bars_of(self, tale):
        """Return the pairs that must not hold, since the tale tells the strict reverse."""
        return [self.pair_of(comparison.second, comparison.first) for comparison in tale
                if comparison.sign == "<"]

    def told_relation(self, tale):
        """Return the relation that the comparisons of the tale make."""
        relation = self.least_relation()
        for comparison in tale:
            one, other = self.pair_of(comparison.first, comparison.second)
            relation.grow(one, other)
        return relation

    def least_relation(self):
        """Return the relation that holds if nothing is told."""
        ones = [1 << at for at in range(len(self.words))]
        relation = Relation(self.moves, ones, list(ones))
        for at in range(len(self.words)):
            for one, other in self.moves[at][at]:
                relation.grow(one, other)
        return relation

    def ranking_of(self, relation):
        """Return the ranking of a relation that compares all words."""
        ranks = [len(bits(mask)) for mask in relation.downs]
        return Ranking.of_ranks(self.words, ranks)

    def leaf_of(self, bar):
        """Return the leaf that names the strict comparison behind a bar."""
        return Leaf(self.words[bar[1]], self.words[bar[0]])


class Relation:
    """For each word the words above it and those below it, itself counted, as bits."""

    def __init__(self, moves, ups, downs):
        self._moves = moves
        self.ups = ups
        self.downs = downs

    def twin(self):
        """Return a relation that holds the same and can grow by itself."""
        return Relation(self._moves, list(self.ups), list(self.downs))

    def holds(self, one, other):
        """Return whether one is at or below other."""
        return self.ups[one] >> other & 1 == 1

    def compares(self, one, other):
        """Return whether one of the two is at or below the other."""
        return self.holds(one, other) or self.holds(other, one)

    def grow(self, one, other):
        """Tell that one is at or below other, with all that follows."""
        ups = self.ups
        downs = self.downs
        waiting = [(one, other)]
        while waiting:
            low, high = waiting.pop()
            if ups[low] >> high & 1:
                continue
            for lower in bits(downs[low]):
                added = ups[high] & ~ups[lower]
                ups[lower] |= added
                for upper in bits(added):
                    downs[upper] |= 1 << lower
                    waiting.extend(self._moves[lower][upper])

    def grown(self, one, other):
        """Return the relation in which one is at or below other, too."""
        relation = self.twin()
        relation.grow(one, other)
        return relation

    def met_bar(self, bars):
        """Return the first of the bars that holds, or None."""
        for bar in bars:
            if self.ups[bar[0]] >> bar[1] & 1:
                return bar
        return None
