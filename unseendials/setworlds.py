"""Set worlds: the partial order that bears a tale exactly if no case is needed against it."""

from unseendials.bounds import bounded_tails
from unseendials.closings import closing_of
from unseendials.errors import BadLetter, NotRanked
from unseendials.facts import told_facts
from unseendials.words import is_small, word_ordered

MOST_TAILS = 16


class SetWorld:
    """The things are the sets of tails that hold, with each tail, all that is below it."""

    def __init__(self, tale, facts=None):
        self._known = told_facts(facts)
        tail_list = bounded_tails(tale.tail_list(), self._known, MOST_TAILS, pairs=False)
        closing = closing_of(tale, self._known)
        self._sets = {word: [low for low in tail_list if closing.holds(low, word)]
                      for word in tail_list}
        self._tale = tale

    def set_of(self, word):
        """Return the set that is the value of a tail."""
        if word not in self._sets:
            raise NotRanked(word)
        return list(self._sets[word])

    def shown_by(self, dial, words):
        """Return what the dial shows at the set of these words."""
        if not is_small(dial):
            raise BadLetter(dial)
        tops = [word for word in self._sets
                if is_small(word[0]) and word[1:] in words and self._known.under(word[0], dial)]
        shown = [low for top in tops for low in self._sets[top]]
        # A word behind 1 is the word itself.
        if self._known.under("1", dial):
            shown.extend(words)
        return word_ordered(shown)

    def bears(self):
        """Return whether the set world bears the tale."""
        return all([self._holds(comparison) for comparison in self._tale])

    def _holds(self, comparison):
        one = self._sets[comparison.first]
        other = self._sets[comparison.second]
        return comparison.first in other and (comparison.sign == "<=" or comparison.second not in one)
