"""Claims: sayings with labels, of which one has to hold."""

from unseendials.comparisons import Tale, lt
from unseendials.errors import BadSaying, BadSign, TooLarge
from unseendials.words import POINT_LETTERS, check_words, is_point, points_of, word_ordered

MOST_WORDS = 16


def _check_labels(rows):
    """Raise BadSaying for the first saying that cannot stand behind the ones before it."""
    for at, (label, above, below) in enumerate(rows):
        met = [row[0] for row in rows[:at]]
        if not is_point(label) or label in met or len(above) + len(below) == 0:
            raise BadSaying(label)
    if len(rows) == 0:
        raise BadSaying("")


class Claim:
    """Sayings (label, U, V): the value of a word of U is at most that of a word of V."""

    def __init__(self, sayings):
        rows = [(label, list(above), list(below)) for label, above, below in sayings]
        check_words([word for _, above, below in rows for word in above + below])
        _check_labels(rows)
        self._sides = {label: (tuple(word_ordered(above)), tuple(word_ordered(below)))
                       for label, above, below in rows}
        if sum([len(above) + len(below) for above, below in self._sides.values()]) > MOST_WORDS:
            raise TooLarge("words")

    @staticmethod
    def named(**sayings):
        """Return the claim whose sayings are told as label=(U, V)."""
        return Claim([(label, above, below) for label, (above, below) in sayings.items()])

    @staticmethod
    def saying(above, below, label="u"):
        """Return the claim of one saying."""
        return Claim([(label, above, below)])

    @staticmethod
    def of(*comparisons):
        """Return the claim that one of the comparisons p <= q holds."""
        if not 1 <= len(comparisons) <= len(POINT_LETTERS):
            raise BadSaying("")
        if any([comparison.sign == "<" for comparison in comparisons]):
            raise BadSign("<")
        return Claim([(label, [comparison.first], [comparison.second])
                      for label, comparison in zip(POINT_LETTERS, comparisons)])

    def label_list(self):
        """Return the labels in alphabetical order."""
        return sorted(self._sides)

    def word_list(self):
        """Return all words in word order, each once."""
        return word_ordered([word for above, below in self._sides.values()
                             for word in above + below])

    def point_list(self):
        """Return the points of the words in alphabetical order."""
        return points_of(self.word_list())

    def side_of(self, label):
        """Return the two sides of the saying with this label."""
        if label not in self._sides:
            raise BadSaying(label)
        above, below = self._sides[label]
        return list(above), list(below)

    def denial(self):
        """Return the tale that is borne exactly where the claim fails."""
        rows = []
        for label in self.label_list():
            above, below = self._sides[label]
            rows.extend([lt(low, high) for high in above for low in below])
        return Tale.listed(rows, self.word_list())

    def holds_in(self, world):
        """Return whether the claim holds in the world."""
        values = {word: world(word) for word in self.word_list()}
        return any([values[one] <= values[other] for above, below in self._sides.values()
                    for one in above for other in below])

    def __add__(self, other):
        return Claim([(label, *claim.side_of(label)) for claim in (self, other)
                      for label in claim.label_list()])

    def __len__(self):
        return len(self._sides)

    def __eq__(self, other):
        if not isinstance(other, Claim) or self.label_list() != other.label_list():
            return False
        return all([self.side_of(label) == other.side_of(label) for label in self.label_list()])
