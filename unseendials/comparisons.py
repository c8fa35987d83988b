"""Comparisons of two words, and tales made of comparisons."""

from unseendials.errors import BadSign
from unseendials.words import check_word, check_words, tail_set


def le(p, q):
    """Return the comparison p <= q."""
    return Comparison(p, "<=", q)


def lt(p, q):
    """Return the comparison p < q."""
    return Comparison(p, "<", q)


class Comparison:
    """Two words and a sign: the first is at most, or less than, the second."""

    def __init__(self, first, sign, second):
        check_word(first)
        check_word(second)
        if sign not in ("<=", "<"):
            raise BadSign(sign)
        self.first = first
        self.sign = sign
        self.second = second

    def written(self):
        """Return the written form."""
        return f"{self.first} {self.sign} {self.second}"

    def holds_in(self, world):
        """Return whether the comparison holds in the world."""
        one = world(self.first)
        other = world(self.second)
        return one < other if self.sign == "<" else one <= other

    def __invert__(self):
        return Comparison(self.second, "<=" if self.sign == "<" else "<", self.first)

    def __eq__(self, other):
        if not isinstance(other, Comparison):
            return False
        return self.sign == other.sign and self.first == other.first and self.second == other.second


class Tale:
    """Comparisons that are told, and words besides, about which nothing is told."""

    def __init__(self, *comparisons, words=()):
        check_words(words)
        self.comparisons = tuple(comparisons)
        self.besides = tuple(words)

    @staticmethod
    def listed(comparisons, words=()):
        """Return the tale of a list of comparisons."""
        return Tale(*comparisons, words=words)

    def tail_list(self):
        """Return the tails of all words of the tale in word order."""
        told = [word for one in self.comparisons for word in (one.first, one.second)]
        return tail_set([*told, *self.besides])

    def told(self, comparison):
        """Return the tale with this comparison at the end."""
        return Tale.listed([*self.comparisons, comparison], self.besides)

    def without(self, at):
        """Return the tale without the comparison number at; the tails stay."""
        rows = self.comparisons[:at] + self.comparisons[at + 1:]
        return Tale.listed(rows, self.tail_list())

    def borne_by(self, world):
        """Return whether all comparisons hold in the world."""
        # All are asked, also behind one that does not hold: each may miss a place or a table.
        return all([comparison.holds_in(world) for comparison in self.comparisons])

    def __add__(self, other):
        return Tale.listed(self.comparisons + other.comparisons, self.besides + other.besides)

    def __len__(self):
        return len(self.comparisons)

    def __iter__(self):
        return iter(self.comparisons)
