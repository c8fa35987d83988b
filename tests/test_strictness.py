"""Strict rankings and their refinements: points [91], [92] and [93]."""

import random
import unittest

from brute import PLAIN_FACTS, PLAIN_WORDS
from helpers import DialCase, first_of
from strictbrute import is_strict_order, strict_orders
from unseendials.errors import BadGroups, BadWord, NoPairs, NotKept, NotPaired, TooLarge
from unseendials.facts import Facts
from unseendials.keeping import keeps
from unseendials.listings import walk_rankings
from unseendials.rankings import Ranking
from unseendials.refining import refine
from unseendials.strictness import is_strict, walk_strict
from unseendials.words import tail_set
from unseendials.worlds import World

SETS = [["x"], ["ffx"], ["fx", "fy"], ["fx", "gy"], ["fgx", "gx"], ["fx", "gx", "y"], ["ffx", "gx"],
        ["fgx", "gfx"], ["fx", "fy", "gx"], ["fffx", "y"], ["fx", "gy", "gx"]]
WIDE_FACTS = PLAIN_FACTS + [Facts(("1", "f"), ("f", "1")), Facts(("f", "1"), ("f", "g"), ("1", "g")),
                            Facts(("f", "h"), ("h", "g"))]


def ranks_of(ranking):
    return {word: ranking.rank_of(word) for word in ranking.word_list()}


class TestStrict(DialCase):

    def test_exactly_the_strict_ones_in_order(self):
        for facts in WIDE_FACTS:
            for words in SETS:
                listed = [list(ranks.values()) for ranks in strict_orders(words, facts)]
                found = list(walk_strict(words, facts))
                self.assertEqual([ranking.rank_list() for ranking in found], sorted(listed))
                self.assertTrue(all(isinstance(ranking, Ranking) for ranking in found))
                for ranking in walk_rankings(words, facts):
                    self.assertIs(is_strict(ranking, facts), is_strict_order(ranks_of(ranking), facts))

    def test_a_ranking_that_does_not_keep_the_facts(self):
        self.assertIs(is_strict(Ranking([["x"], ["fx"]]), Facts(("f", "1"))), False)
        self.assertIs(is_strict(Ranking([["x"], ["fx"]]), None), True)
        self.assertIs(is_strict(Ranking([["x"], ["y"], ["fx", "fy"]])), False)
        self.assertIs(is_strict(Ranking([["x"], ["y"], ["fx", "gy"]]), Facts(("f", "g"))), False)
        self.assertIs(is_strict(Ranking([["x"], ["y"], ["fx", "gy"]])), True)
        # Neither dial is the still one: under f alone, y and fx may be level above x.
        self.assertIs(is_strict(Ranking([["x"], ["y", "fx"]]), Facts(("1", "f"))), True)

    def test_level_exactly_if_the_rests_are(self):
        for facts in WIDE_FACTS:
            for ranking in walk_strict(["fx", "fy"], facts):
                self.assertEqual(ranking.rank_of("fx") == ranking.rank_of("fy"),
                                 ranking.rank_of("x") == ranking.rank_of("y"))

    def test_repeated_words_and_tuples(self):
        rows = [list(ranking) for ranking in walk_strict(("fx", "x", "fx"))]
        self.assertEqual(rows, [list(ranking) for ranking in walk_strict(["fx"])])

    def test_the_words_are_looked_at_when_it_begins(self):
        words = ["Fx"]
        walk = walk_strict(words)
        words[0] = "fx"
        self.assertEqual(next(walk).rank_list(), [0, 0])
        words[0] = "fffx"
        self.assertEqual(len(list(walk)), 2)

    def test_six_tails_and_seven(self):
        self.assertEqual(len(list(walk_strict(list("uvwxyz")))), 4683)
        self.tells(TooLarge("words"), first_of, walk_strict, [*"uvwxyz", "fx"])

    def test_errors_in_order(self):
        paired = Facts(("b", "b"), paired="ba")
        self.tells(BadWord("f"), first_of, walk_strict, ["Fx", "f"], paired)
        self.tells(NotPaired("F"), first_of, walk_strict, ["ax", "Fx"], paired)
        self.tells(NoPairs("A"), first_of, walk_strict, ["fffffffbAx"], paired)
        self.tells(NoPairs("a"), first_of, walk_strict, ["ffffffffx"], paired)
        self.tells(NoPairs("a"), first_of, walk_strict, [], paired)
        self.tells(TooLarge("words"), first_of, walk_strict, ["ffffffffx"])
        self.tells(BadGroups(""), first_of, walk_strict, [])
        self.tells(NoPairs("b"), is_strict, Ranking([["x"], ["bx"]]), paired)
        self.tells(NoPairs("a"), is_strict, Ranking([["x"], ["fx"]]), paired)
        self.tells(NotPaired("F"), is_strict, Ranking([["x"], ["Fx"]]), paired)


class TestRefine(DialCase):

    def refines(self, parted, ranking, facts):
        """Assert that one ranking is a strict one that refines the other."""
        ranks, old = ranks_of(parted), ranks_of(ranking)
        self.assertEqual(sorted(ranks), sorted(old))
        self.assertTrue(all(ranks[p] < ranks[q] for p in old for q in old if old[p] < old[q]))
        self.assertTrue(keeps(parted, facts))
        self.assertTrue(is_strict_order(ranks, facts))

    def test_each_ranking_that_keeps_the_facts(self):
        for facts in WIDE_FACTS:
            for words in SETS:
                for ranking in walk_rankings(words, facts):
                    self.refines(refine(ranking, facts), ranking, facts)

    def test_rankings_of_worlds(self):
        luck = random.Random(5)
        for facts in WIDE_FACTS:
            for _ in range(40):
                steps = luck.randint(1, 6)
                tables = {dial: sorted(luck.choices(range(steps), k=steps)) for dial in "fghk"}
                if ("1", "f") in facts or ("1", "g") in facts:
                    for dial in "fg":
                        tables[dial] = [max(at, shown) for at, shown in enumerate(tables[dial])]
                if ("f", "1") in facts:
                    tables["f"] = [min(at, shown) for at, shown in enumerate(tables["f"])]
                if facts.under("f", "g"):
                    tables["g"] = [max(pair) for pair in zip(tables["f"], tables["g"])]
                    tables["h"] = list(tables["g"])
                if facts.under("g", "f"):
                    tables["g"] = list(tables["f"])
                if ("f", "1") in facts and ("1", "f") in facts:
                    tables["f"] = list(range(steps))
                try:
                    world = World(steps, {p: luck.randrange(steps) for p in "xyz"}, tables, facts)
                except ValueError:
                    continue
                ranking = Ranking.of_world(luck.sample(PLAIN_WORDS, 6) + ["fgfhz"], world)
                self.refines(refine(ranking, facts), ranking, facts)

    def test_a_strict_ranking_keeps_its_order(self):
        for ranking in walk_strict(["fx", "gy"], Facts(("f", "g"))):
            parted = ranks_of(refine(ranking, Facts(("f", "g"))))
            old = ranks_of(ranking)
            self.assertTrue(all(parted[p] < parted[q] for p in old for q in old if old[p] < old[q]))

    def test_it_is_new(self):
        ranking = Ranking([["x"]])
        self.assertEqual(refine(ranking), ranking)
        self.assertIsNot(refine(ranking), ranking)

    def test_errors_in_order(self):
        self.tells(NotKept(1), refine, Ranking([["x"], ["y"], ["fy"], ["fx"]]))
        self.tells(NotKept(1), refine, Ranking([["x"], ["fx"]]), Facts(("f", "1")))
        self.tells(NoPairs("f"), refine, Ranking([["x"], ["fx"]]), Facts(("f", "1"), paired="f"))
        self.tells(NoPairs("a"), refine, Ranking([["x"], ["fx"]]), Facts(("f", "1"), paired="ba"))
        self.tells(NotPaired("F"), refine, Ranking([["x"], ["Fx"]]), Facts(paired="a"))

    def test_many_words(self):
        world = World(60, {"x": 59, "y": 30}, {"f": [0] + list(range(59)), "g": [7] * 60})
        words = ["f" * 39 + "x", "gf" * 19 + "y", "ffg" * 12 + "x"]
        ranking = Ranking.of_world(words, world)
        self.assertEqual(len(tail_set(words)), len(ranking.word_list()))
        self.refines(refine(ranking), ranking, Facts())


if __name__ == "__main__":
    unittest.main()
