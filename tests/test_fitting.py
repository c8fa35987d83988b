"""Words and facts together: points [0.4], [0.5] and [0.6]."""

import unittest

from helpers import DialCase, first_of
from unseendials.errors import (BadGroups, BadSteps, BadWord, NoPairs, NotKept, NotPaired, TooLarge)
from unseendials.facts import Facts
from unseendials.keeping import broken, keeps
from unseendials.listings import group_counts, walk_rankings
from unseendials.placing import ranking_sketch, ranking_world
from unseendials.rankings import Ranking
from unseendials.rows import rows_on


def first_ranking(words, facts=None):
    return first_of(walk_rankings, words, facts)


def rows_on_three(words, facts=None):
    return rows_on(words, facts, 3)


def level(words):
    """Return a function like those for words that makes a ranking of the tails first."""
    return Ranking.of_ranks(words, [0 for _ in words])


class TestFitting(DialCase):

    def test_texts_that_are_no_words_come_first(self):
        for call in [first_ranking, group_counts, rows_on_three]:
            self.tells(BadWord("A"), call, ["x", "A", "Bx", "q"], None)
            self.tells(BadWord("f" * 41), call, ("f" * 41, "Ax"), Facts(paired="b"))

    def test_back_dials_of_unpaired_dials(self):
        for call in [first_ranking, group_counts, rows_on_three]:
            self.tells(NotPaired("B"), call, ["fAfx", "By"], None)
            self.tells(NotPaired("A"), call, ["fAfx", "By"], Facts(paired="b"))
            self.tells(NotPaired("A"), call, ["By", "Ax"], None)
            # The tail Cx stands ahead of the tail Bfx, which is longer.
            self.tells(NotPaired("C"), call, ["Bfx", "Cx"], Facts(("b", "c")))
            self.tells(NotPaired("A"), call, ["fgAfgfx"], Facts(paired="f"))

    def test_rankings_with_such_back_dials(self):
        ranking = level(["x", "fx", "Bx", "Afx"])
        for call in [broken, keeps, ranking_sketch, ranking_world]:
            self.tells(NotPaired("B"), call, ranking)
            self.tells(NotPaired("A"), call, ranking, Facts(paired="bf"))

    def test_no_pairs(self):
        facts = Facts(paired="ab")
        self.tells(NoPairs("B"), rows_on, ["gax", "fBx"], facts, 3)
        self.tells(NoPairs("A"), rows_on, ["Ax", "Bx"], facts, 3)
        self.tells(NoPairs("a"), rows_on, ["faffffffx"], facts, 99)
        self.tells(NotPaired("C"), rows_on, ["ax", "fCx"], facts, 3)
        self.assertEqual(rows_on(["fx"], facts, 2), 4)

    def test_too_large_and_what_comes_behind(self):
        for call in [first_ranking, group_counts, rows_on_three]:
            self.tells(TooLarge("words"), call, ["fffffx", "y"], None)
            self.tells(NotPaired("A"), call, ["fffffx", "Ay"], None)
            self.tells(BadGroups(""), call, [], None)
            self.tells(BadGroups(""), call, (), Facts(paired="a"))
        self.tells(TooLarge("words"), rows_on, ["ffffffx"], None, 0)
        self.tells(BadGroups(""), rows_on, [], None, 0)
        self.tells(BadSteps(0), rows_on, ["ffffx", "y"], None, 0)

    def test_what_does_not_fit_comes_ahead_of_the_rules(self):
        ranking = Ranking([["fx"], ["x"], ["y"], ["fy", "Bx"]])
        self.tells(NotPaired("B"), ranking_sketch, ranking, Facts(("1", "f")), at=[9])
        self.tells(NotKept(1), ranking_sketch, Ranking([["y"], ["fx"], ["x"], ["fy"]]),
                   Facts(("1", "f")), at=[9])


class TestGenerators(DialCase):

    def test_they_begin_when_the_first_value_is_asked_for(self):
        walk = walk_rankings(["f"])
        self.tells(BadWord("f"), next, walk)
        words = ["fx"]
        walk = walk_rankings(words)
        words.append("y")
        self.assertEqual(next(walk).word_list(), ["x", "y", "fx"])

    def test_they_copy_when_they_begin(self):
        words = ["fx"]
        walk = walk_rankings(words)
        told = [next(walk)]
        words.append("y")
        words[0] = "f"
        told.extend(walk)
        self.assertTrue(told == list(walk_rankings(["fx"])))

    def test_what_is_handed_in_stays(self):
        words = ["fx", "fx"]
        for call in [first_ranking, group_counts, rows_on_three]:
            call(words)
        self.assertEqual(words, ["fx", "fx"])
        counts = group_counts(words)
        counts[0] = 9
        self.assertEqual(group_counts(words), [1, 2])


if __name__ == "__main__":
    unittest.main()
