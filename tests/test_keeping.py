"""The four rules of rankings: points [32] and [33]."""

import unittest

from brute import rule_sides
from helpers import SOME_FACTS, DialCase, parts_under, walk_worlds, weak_orders
from unseendials.facts import Facts
from unseendials.keeping import broken, keeps
from unseendials.rankings import Ranking
from unseendials.words import dials_of, points_of, tail_set


def breaks(ranking, facts, rule, a, b, p, q):
    """Return whether the ranking breaks the rule, as DOC.md words it."""
    backs = {2: b, 3: a, 4: a + b}.get(rule, "")
    if any(letter != "1" and letter not in facts.paired for letter in backs):
        return False
    given, gives = rule_sides(rule, a, b, p, q)
    if b not in parts_under(facts, a):
        return False
    if not all(word in ranking for word in (p, q, *given, *gives)):
        return False
    return ranking.below(*given) and not ranking.below(*gives)


def breaks_some(ranking, facts):
    words = ranking.word_list()
    parts = ["1"] + dials_of(words)
    return any(breaks(ranking, facts, rule, a, b, p, q) for rule in (1, 2, 3, 4)
               for a in parts for b in parts if b in parts_under(facts, a)
               for p in words for q in words)


CASES = [(facts, words) for facts in SOME_FACTS for words in
         ([["fx", "gy"], ["ffx"], ["fgx"], ["ax", "y"]] if not facts.paired else
          [["ax", "Ay"], ["Aax"], ["aAx"], ["fAx"], ["ax", "fx"]])]


class TestKeeping(DialCase):

    def test_broken_rules_are_broken(self):
        for facts, words in CASES:
            tails = tail_set(words)
            for ranks in weak_orders(len(tails)):
                ranking = Ranking.of_ranks(tails, ranks)
                fault = broken(ranking, facts)
                self.assertEqual(fault is not None, breaks_some(ranking, facts))
                self.assertIs(keeps(ranking, facts), fault is None)
                if fault is not None:
                    self.assertEqual(len(fault), 5)
                    self.assertTrue(breaks(ranking, facts, *fault))

    def test_kept_exactly_if_some_world_ranks_so(self):
        for facts, words in CASES:
            tails = tail_set(words)
            dials = sorted(set(dials_of(words) + facts.dial_list()))
            if len(tails) > 3 or len(dials) > 2:
                continue
            # A dial besides the paired one is looked at under one fact alone, to save time.
            if facts.paired and "f" in dials and not facts.under("f", "1"):
                continue
            steps = len(tails) + (2 if facts.paired else 0)
            told = {Ranking.of_world(words, world).groups for world in
                    walk_worlds(facts, steps, dials, "".join(points_of(words)))}
            kept = {Ranking.of_ranks(tails, ranks).groups for ranks in weak_orders(len(tails))
                    if keeps(Ranking.of_ranks(tails, ranks), facts)}
            self.assertEqual(told, kept)

    def test_no_facts(self):
        self.assertEqual(broken(Ranking([["x"], ["y"], ["fy"], ["fx"]])),
                         (1, "f", "f", "x", "y"))
        self.assertIsNone(broken(Ranking([["x"], ["y", "fx", "fy"]]), None))
        self.assertIs(keeps(Ranking([["x"]])), True)

    def test_each_rule_can_be_told(self):
        facts = Facts(("a", "b"), paired="ab")
        cases = [([["x"], ["y"], ["by"], ["ax"]], (1, "a", "b", "x", "y")),
                 ([["x"], ["Bx"], ["ax"]], (2, "a", "b", "x", "x")),
                 ([["bx"], ["Ax"], ["x"]], (3, "a", "b", "x", "x")),
                 ([["x"], ["Ax"], ["Bx"]], (4, "a", "b", "x", "x"))]
        for groups, fault in cases:
            with self.subTest(groups=groups):
                ranking = Ranking(groups)
                self.assertTrue(breaks(ranking, facts, *fault))
                self.assertTrue(breaks(ranking, facts, *broken(ranking, facts)))

    def test_one_dial_of_both_letters_need_not_be_in_the_facts(self):
        for words in [["fx", "fy"], ["gx", "gy"]]:
            ranking = Ranking([[words[0][1:]], [words[1][1:]], [words[1]], [words[0]]])
            self.assertEqual(broken(ranking, Facts(("h", "k")))[0], 1)

    def test_unpaired_dials_have_no_back_dial(self):
        facts = Facts(("f", "1"), ("g", "g"))
        for groups, kept in [([["x"], ["fx"]], False), ([["fx"], ["x"]], True),
                             ([["x", "fx"]], True)]:
            self.assertIs(keeps(Ranking(groups), facts), kept)


if __name__ == "__main__":
    unittest.main()
