"""Rankings: the words of a tail set in groups, the lowest group first."""

from unseendials.errors import BadGroups, NotRanked
from unseendials.words import check_words, tail_set, tails, word_ordered


def _check_groups(groups):
    """Raise an error unless the groups make a ranking."""
    words = [word for group in groups for word in group]
    check_words(words)
    if len(groups) == 0 or not all([len(group) > 0 for group in groups]):
        raise BadGroups("")
    met = {}
    for word in words:
        if word in met:
            raise BadGroups(word)
        met[word] = True
    for word in word_ordered(words):
        if not all([tail in met for tail in tails(word)]):
            raise BadGroups(word)


def _grouped(words, ranks):
    """Return the words in groups of equal numbers, the lowest number first."""
    pairs = list(zip(words, ranks))
    return [[word for word, rank in pairs if rank == number] for number in sorted(set(ranks))]


class Ranking:
    """Groups of words; words of one group are level."""

    def __init__(self, groups):
        _check_groups(groups)
        self.groups = tuple([tuple(word_ordered(group)) for group in groups])
        self._ranks = {word: rank for rank, group in enumerate(groups) for word in group}

    @staticmethod
    def of_world(words, world):
        """Return the ranking of the tail set of the words by their values in the world."""
        tail_list = tail_set(words)
        return Ranking(_grouped(tail_list, [world(tail) for tail in tail_list]))

    @staticmethod
    def of_ranks(words, ranks):
        """Return the ranking of the words by the numbers that stand at the same places."""
        if len(words) != len(ranks):
            raise BadGroups("")
        return Ranking(_grouped(words, ranks))

    def rank_of(self, word):
        """Return the rank of the word."""
        if word not in self._ranks:
            raise NotRanked(word)
        return self._ranks[word]

    def below(self, p, q):
        """Return whether the rank of p is at most that of q."""
        rank = self.rank_of(p)
        return rank <= self.rank_of(q)

    def word_list(self):
        """Return the words in word order."""
        return word_ordered(list(self._ranks))

    def rank_list(self):
        """Return the ranks of the words, the words taken in word order."""
        return [self._ranks[word] for word in self.word_list()]

    def only(self, words):
        """Return the ranking of the tail set of these words."""
        tail_list = tail_set(words)
        return Ranking(_grouped(tail_list, [self.rank_of(tail) for tail in tail_list]))

    def top_cuts(self):
        """Return the words of the highest 0, 1, 2, .. groups, up to all groups."""
        many = len(self.groups)
        return [word_ordered([word for group in self.groups[at:] for word in group])
                for at in range(many, -1, -1)]

    def __len__(self):
        return len(self.groups)

    def __iter__(self):
        return iter(self.groups)

    def __contains__(self, word):
        return isinstance(word, str) and word in self._ranks

    def __eq__(self, other):
        return isinstance(other, Ranking) and self.groups == other.groups
