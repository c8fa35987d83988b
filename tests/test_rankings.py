"""Rankings: point [31] and the heading unseendials/rankings.py."""

import itertools
import unittest

from helpers import DialCase, walk_worlds, weak_orders
from unseendials.errors import BadGroups, BadWord, NoPlace, NotRanked, NoTable
from unseendials.facts import Facts
from unseendials.rankings import Ranking
from unseendials.words import tail_set
from unseendials.worlds import World

WORDS = ["x", "y", "fx", "fy"]


def some_ranking():
    return Ranking([["fx", "x"], ("y",), ["gfx", "fy"]])


class TestMaking(DialCase):

    def test_groups_stand_in_word_order(self):
        groups = [["fx", "x"], ("y",), ["gfx", "fy"]]
        ranking = Ranking(groups)
        told = (("x", "fx"), ("y",), ("fy", "gfx"))
        self.assertEqual([ranking.groups, list(ranking), len(ranking)], [told, list(told), 3])
        groups[0].append("z")
        groups.pop()
        self.assertEqual(ranking.groups, told)
        self.assertTrue(Ranking(tuple(ranking)) == ranking)
        self.assertEqual(len(Ranking([["x"]])), 1)

    def test_texts_that_are_no_words(self):
        self.tells(BadWord("f"), Ranking, [["x"], [], ["f", "q"], ["x"]])
        self.tells(BadWord(""), Ranking, [["x", ""], ["1"]])

    def test_groups_that_are_empty(self):
        self.tells(BadGroups(""), Ranking, [])
        self.tells(BadGroups(""), Ranking, ())
        self.tells(BadGroups(""), Ranking, [["x", "x"], []])
        self.tells(BadGroups(""), Ranking, [[]])

    def test_words_that_occur_twice(self):
        self.tells(BadGroups("y"), Ranking, [["x", "gfx"], ["y", "y", "x"]])
        self.tells(BadGroups("x"), Ranking, [["x", "y"], ["x", "y"]])

    def test_words_whose_tails_are_missing(self):
        self.tells(BadGroups("fgx"), Ranking, [["y", "ggfx"], ["hfgx", "fgx", "fx", "x"]])
        self.tells(BadGroups("Fx"), Ranking, [["fx", "gx"], ["Fx"]])
        self.tells(BadGroups("gfx"), Ranking, [["x", "gfx"]])

    def test_of_ranks(self):
        ranking = Ranking.of_ranks(["fx", "y", "x", "fy"], [7, -3, 10 ** 17, 7])
        self.assertEqual(ranking.groups, (("y",), ("fx", "fy"), ("x",)))
        self.assertTrue(Ranking.of_ranks(("x", "fx"), (1, 1)) == Ranking([["x", "fx"]]))
        self.tells(BadGroups(""), Ranking.of_ranks, ["f"], [1, 2])
        self.tells(BadGroups(""), Ranking.of_ranks, [], [])
        self.tells(BadWord("g"), Ranking.of_ranks, ["f", "x", "g", "h"], [5, 4, 3, 5])
        self.tells(BadGroups("y"), Ranking.of_ranks, ["x", "y", "x", "y"], [2, 1, 3, 1])
        self.tells(BadGroups("fx"), Ranking.of_ranks, ["gfx", "fx"], [0, 1])

    def test_of_world(self):
        world = World(4, {"x": 1, "y": 2}, {"f": [0, 2, 2, 3]})
        self.assertEqual(Ranking.of_world(["fx", "ffy"], world).groups,
                         (("x",), ("y", "fx", "fy", "ffy")))
        for small in walk_worlds(Facts(paired="a"), 3, "f", "x"):
            ranking = Ranking.of_world(("fAx", "ax"), small)
            self.assertEqual(ranking.word_list(), tail_set(["fAx", "ax"]))
            for p, q in itertools.product(ranking.word_list(), repeat=2):
                self.assertEqual(ranking.below(p, q), small(p) <= small(q))
        self.tells(BadWord("f"), Ranking.of_world, ["gz", "f"], world)
        self.tells(BadGroups(""), Ranking.of_world, [], world)
        self.tells(NoPlace("z"), Ranking.of_world, ["hx", "z"], world)
        self.tells(NoTable("G"), Ranking.of_world, ["fgx", "Gx"], world)


class TestAsking(DialCase):

    def test_ranks(self):
        ranking = some_ranking()
        self.assertEqual([ranking.rank_of(word) for word in ["x", "fx", "y", "fy", "gfx"]],
                         [0, 0, 1, 2, 2])
        self.assertEqual(ranking.word_list(), ["x", "y", "fx", "fy", "gfx"])
        self.assertEqual(ranking.rank_list(), [0, 1, 0, 2, 2])
        for text in ["z", "gx", "", "f"]:
            self.tells(NotRanked(text), ranking.rank_of, text)
        for handed_out in [ranking.word_list(), ranking.rank_list(), ranking.top_cuts()]:
            handed_out.pop()
        self.assertEqual(len(ranking.word_list()), 5)

    def test_rank_lists_give_the_ranking(self):
        for ranks in weak_orders(4):
            ranking = Ranking.of_ranks(WORDS, ranks)
            self.assertEqual(ranking.rank_list(), list(ranks))
            self.assertEqual(len(ranking), max(ranks) + 1)

    def test_below(self):
        ranking = some_ranking()
        told = [ranking.below(p, q) for p, q in [("x", "y"), ("y", "x"), ("x", "fx"), ("y", "y")]]
        self.assertEqual(told, [True, False, True, True])
        self.tells(NotRanked("z"), ranking.below, "z", "u")
        self.tells(NotRanked("u"), ranking.below, "x", "u")

    def test_words_that_are_in(self):
        ranking = some_ranking()
        self.assertTrue(all(word in ranking for word in ["x", "y", "fx", "fy", "gfx"]))
        for worth in ["z", "", ["x"], ("x", "fx"), 0, None]:
            self.assertFalse(worth in ranking)

    def test_only(self):
        ranking = some_ranking()
        self.assertEqual(ranking.only(["fy", "x"]).groups, (("x",), ("y",), ("fy",)))
        self.assertEqual(ranking.only(("gfx",)).groups, (("x", "fx"), ("gfx",)))
        self.assertTrue(ranking.only(ranking.word_list()) == ranking)
        self.assertIsNot(ranking.only(ranking.word_list()), ranking)
        self.tells(BadWord("f"), ranking.only, ["z", "f"])
        self.tells(NotRanked("z"), ranking.only, ["gfy", "gz"])
        self.tells(NotRanked("gy"), ranking.only, ["fgy", "hgy", "fx"])
        self.tells(BadGroups(""), ranking.only, [])

    def test_top_cuts(self):
        self.assertEqual(some_ranking().top_cuts(),
                         [[], ["fy", "gfx"], ["y", "fy", "gfx"], ["x", "y", "fx", "fy", "gfx"]])
        self.assertEqual(Ranking([["x", "u"]]).top_cuts(), [[], ["u", "x"]])

    def test_equal(self):
        ranking = some_ranking()
        self.assertTrue(ranking == Ranking([["x", "fx"], ["y"], ["fy", "gfx"]]))
        self.assertFalse(ranking != Ranking([["x", "fx"], ["y"], ["fy", "gfx"]]))
        self.assertTrue(ranking != Ranking([["y"], ["x", "fx"], ["fy", "gfx"]]))
        self.assertFalse(ranking == ranking.groups)
        self.assertFalse(ranking == None)  # noqa: E711


if __name__ == "__main__":
    unittest.main()
