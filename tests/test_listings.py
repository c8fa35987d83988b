"""Listings of rankings: points [35], [36], [38] and [39]."""

import unittest

from helpers import SOME_FACTS, DialCase, weak_orders
from test_keeping import CASES, breaks_some
from unseendials.errors import TooLarge
from unseendials.facts import Facts
from unseendials.keeping import keeps
from unseendials.listings import group_counts, walk_rankings
from unseendials.rankings import Ranking
from unseendials.words import tail_set


def listed(words, facts=None):
    return [ranking.rank_list() for ranking in walk_rankings(words, facts)]


class TestListing(DialCase):

    def test_complete_in_order_each_once(self):
        for facts, words in CASES:
            tails = tail_set(words)
            kept = [list(ranks) for ranks in weak_orders(len(tails))
                    if not breaks_some(Ranking.of_ranks(tails, ranks), facts)]
            self.assertEqual(listed(words, facts), kept)

    def test_six_points(self):
        told = listed(["x", "y", "z", "u", "v", "w"])
        self.assertEqual(told, [list(ranks) for ranks in weak_orders(6)])
        self.assertEqual(len(told), 4683)

    def test_rankings_of_the_tail_set(self):
        rankings = list(walk_rankings(("gfx", "fx")))
        self.assertTrue(all(type(ranking) is Ranking for ranking in rankings))
        self.assertEqual(rankings[0].word_list(), ["x", "fx", "gfx"])
        self.assertIsNot(rankings[0], rankings[1])

    def test_six_tails_and_seven(self):
        self.assertEqual(len(listed(["fffffx"])), 11)
        self.assertEqual(listed(["x"]), [[0]])
        self.tells(TooLarge("words"), listed, ["ffffffx"])
        self.tells(TooLarge("words"), group_counts, ["fffx", "ffy"])

    def test_counts(self):
        for facts, words in CASES:
            counts = [0] * len(tail_set(words))
            for ranks in listed(words, facts):
                counts[max(ranks)] += 1
            self.assertEqual(group_counts(words, facts), counts)


class TestOneDial(DialCase):

    def test_point_38(self):
        for m in range(6):
            word = "f" * m + "x"
            others = [("g", "1"), ("g", "g")]
            self.assertEqual(group_counts([word], Facts(*others)), [1] + [2] * m)
            for pair in [("1", "f"), ("f", "1")]:
                self.assertEqual(group_counts([word], Facts(pair, *others)), [1] * (m + 1))
            self.assertEqual(group_counts([word], Facts(("1", "f"), ("f", "1"))), [1] + [0] * m)


class TestParts(DialCase):

    def test_parts_of_tail_sets(self):
        for facts in SOME_FACTS:
            whole = ["faAx", "y"] if facts.paired else ["fgfx", "y"]
            for part in [whole[:1], [whole[0][1:], "y"], [whole[0][2:]], ["y"]]:
                left = {ranking.only(part).groups for ranking in walk_rankings(whole, facts)}
                self.assertEqual(left, {ranking.groups for ranking in walk_rankings(part, facts)})

    def test_more_facts(self):
        for less, more in [(Facts(), Facts(("f", "g"))), (Facts(("f", "g")),
                           Facts(("f", "1"), ("1", "g"))), (Facts(paired="a"),
                           Facts(("1", "a"), paired="a"))]:
            words = ["aAfx"] if less.paired else ["fgx", "fy"]
            self.assertTrue(less.within(more))
            self.assertEqual(listed(words, more), [ranking.rank_list() for ranking in
                                                   walk_rankings(words, less)
                                                   if keeps(ranking, more)])


if __name__ == "__main__":
    unittest.main()
