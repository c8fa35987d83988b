"""Sure claims and terms that are nowhere above others: points [62], [63], [64] and [66]."""

import itertools
import random
import unittest

from brute import (PAIRED_WORDS, PLAIN_WORDS, bears, claim_holds, claims_with_facts, kept_orders,
                   refuted_by, some_claims, some_term, term_value, value_in)
from helpers import SOME_FACTS, DialCase
from unseendials.claims import Claim
from unseendials.comparisons import Tale, le
from unseendials.deciding import is_refutation
from unseendials.errors import NotPaired, TooLarge
from unseendials.facts import Facts
from unseendials.rowforms import high_rows, low_rows, term_of_rows
from unseendials.sureness import alike, denial_tree, failing_world, parting_world, sure, term_below
from unseendials.terms import word_term
from unseendials.words import replace_dials, tail_set

MANY = [letter + "x" for letter in "abcdefghijklmno"]


class TestClaims(DialCase):

    def right(self, claim, facts):
        """Assert that either a tree or a world is told; return whether the claim is sure."""
        tree, world = denial_tree(claim, facts), failing_world(claim, facts)
        if tree is None:
            self.assertTrue(bears(world, claim.denial(), facts))
            self.assertFalse(claim_holds({word: value_in(world, word)
                                          for word in claim.word_list()}, claim))
        else:
            self.assertIsNone(world)
            self.assertTrue(refuted_by(tree, claim.denial(), facts, tidy=True))
            self.assertIs(is_refutation(tree, claim.denial(), facts), True)
        self.assertIs(sure(claim, facts), tree is not None)
        return tree is not None

    def test_sure_exactly_if_it_holds_in_each_order(self):
        met = {True: 0, False: 0}
        for claim, facts in claims_with_facts(221, 14, 5):
            held = all(claim_holds(ranks, claim)
                       for ranks in kept_orders(claim.word_list(), facts))
            self.assertEqual(self.right(claim, facts), held)
            met[held] += 1
        self.assertGreater(min(met.values()), 20)

    def test_larger_claims(self):
        met = [self.right(claim, facts) for claim, facts in claims_with_facts(231, 5, 13)]
        self.assertIn(True, met)
        self.assertIn(False, met)

    def test_empty_sides_fail(self):
        for sides in [(["x"], []), ([], ["fx"])]:
            self.assertFalse(self.right(Claim.saying(*sides), Facts(("1", "f"))))

    def test_none_stands_for_no_facts(self):
        claim = Claim.of(le("x", "y"), le("y", "x"))
        self.assertIs(sure(claim), True)
        self.assertIsNone(failing_world(claim))
        self.assertIsNone(denial_tree(Claim.of(le("x", "y")), None))

    def test_sixteen_tails_and_seventeen(self):
        claim = Claim.saying(MANY[:8], MANY[8:])
        self.assertFalse(self.right(claim, Facts()))
        self.assertTrue(self.right(Claim.saying(MANY[:8], MANY[7:]), Facts()))
        wide = Claim.saying(MANY[:8], [*MANY[8:], "y"])
        for call in (failing_world, denial_tree, sure):
            self.tells(TooLarge("words"), call, wide)
            self.tells(NotPaired("Q"), call, Claim.saying(MANY[:8], [*MANY[8:], "Qy"]))

    def test_claims_apart(self):
        for facts in [Facts(), Facts(("1", "f")), Facts(paired="a")]:
            words = ["x", "fx", "ax"]
            pairs = [le(p, q) for p, q in itertools.product(words, repeat=2)]
            for one, other in itertools.product(pairs, repeat=2):
                first = Claim.of(one)
                second = Claim.saying([other.first[:-1] + "y"], [other.second[:-1] + "y"], "v")
                self.assertEqual(sure(first + second, facts), sure(first, facts) or sure(second, facts))

    def test_more_facts(self):
        for less, more in itertools.permutations(SOME_FACTS, 2):
            if less.within(more) and less != more:
                words = PAIRED_WORDS if less.paired else PLAIN_WORDS
                for claim in some_claims(5, 12, words, 6):
                    self.assertTrue(sure(claim, more) or not sure(claim, less))

    def test_replaced_dials(self):
        for facts, words in [(Facts(), PLAIN_WORDS), (Facts(paired="a"), PAIRED_WORDS)]:
            found = 0
            for claim in some_claims(7, 60, words, 7):
                if not sure(claim, facts):
                    continue
                found += 1
                for heads in [{"f": ""}, {"f": "gg", "g": ""}, {"f": "gk", "g": "f", "h": "f"}]:
                    rows = [(label, *[[replace_dials(word, heads) for word in side]
                                      for side in claim.side_of(label)]) for label in claim.label_list()]
                    self.assertTrue(sure(Claim(rows), facts))
            self.assertGreater(found, 5)


class TestTerms(DialCase):

    def right(self, s, t, facts):
        """Assert that the outcomes for two terms go together; return whether s is nowhere above t."""
        below, world = term_below(s, t, facts), parting_world(s, t, facts)
        words = s.word_list() + t.word_list()
        orders = kept_orders(words, facts) if len(tail_set(words)) <= 5 else []
        if orders:
            self.assertEqual(below, all(term_value(ranks, s) <= term_value(ranks, t) for ranks in orders))
        self.assertEqual(below, world is None)
        if world is not None:
            self.assertTrue(bears(world, Tale(words=words), facts))
            values = {word: value_in(world, word) for word in words}
            self.assertGreater(term_value(values, s), term_value(values, t))
        back = term_below(t, s, facts)
        self.assertIs(alike(s, t, facts), below and back)
        return below

    def test_in_each_order(self):
        luck, met = random.Random(3), {True: 0, False: 0}
        for facts in SOME_FACTS:
            words = [word for word in (PAIRED_WORDS if "a" in facts.paired else PLAIN_WORDS)
                     if len(word) < 4]
            for _ in range(12):
                some = luck.sample(words, 3)
                s, t = (some_term(luck, some, luck.randint(1, 4)) for _ in range(2))
                met[self.right(s, t, facts)] += 1
        self.assertGreater(min(met.values()), 30)

    def test_by_sayings_of_rows(self):
        luck = random.Random(4)
        for facts in [Facts(), Facts(("f", "g"), ("1", "f")), Facts(("f", "1"))]:
            for _ in range(8):
                s, t = (some_term(luck, PLAIN_WORDS[:8], 4) for _ in range(2))
                told = [sure(Claim.saying(high, low), facts)
                        for high in high_rows(s) for low in low_rows(t)]
                self.assertEqual(self.right(s, t, facts), all(told))

    def test_letters_in_front(self):
        x, y = word_term("x"), word_term("y")
        for facts in [Facts(), Facts(("1", "f"))]:
            self.assertIs(alike((x & y).through("f"), x.through("f") & y.through("f"), facts), True)
            self.assertIs(term_below((x & y).through("f"), (x | y).through("f"), facts), True)
            self.assertIs(term_below((x | y).through("f"), (x & y).through("f"), facts), False)
        self.assertIs(alike(word_term("aAax"), word_term("ax"), Facts(paired="a")), True)
        self.assertIs(alike(x, x | (x & y)), True)
        self.assertIs(alike(x, y), False)

    def test_points_and_dials_of_both(self):
        world = parting_world(word_term("fx"), word_term("gy"), Facts(("k", "k")))
        self.assertEqual((world.point_list(), world.dial_list()), (["x", "y"], ["f", "g", "k"]))
        self.assertGreater(world("fx"), world("gy"))

    def test_errors_in_order(self):
        pairs = [(word_term(p) | word_term(q)) for p, q in zip(MANY[0:14:2], MANY[1:14:2])]
        wide, deep = pairs[0], pairs[0].left & pairs[0].right
        for pair in pairs[1:]:
            wide, deep = wide & pair, deep | (pair.left & pair.right)
        one = word_term("x")
        for call in (term_below, alike, parting_world):
            self.tells(TooLarge("rows"), call, wide, one)
            self.tells(TooLarge("rows"), call, one, wide)
            self.tells(TooLarge("rows"), call, deep, one)
            self.tells(TooLarge("rows"), call, one, deep)
            self.tells(TooLarge("words"), call, wide, word_term("fffy"))
            self.tells(NotPaired("F"), call, wide, word_term("GFffy"))
            self.tells(TooLarge("words"), call, term_of_rows([MANY]), word_term("y"))
        self.assertIs(term_below(term_of_rows([MANY]), word_term("x")), False)
        self.assertIs(term_below(term_of_rows([MANY]), word_term("ax")), True)

    def test_many_rows(self):
        six = [(word_term(p) | word_term(q)) for p, q in zip(MANY[0:12:2], MANY[1:12:2])]
        wide = six[0]
        for pair in six[1:]:
            wide = wide & pair
        self.assertEqual(len(high_rows(wide)), 64)
        self.assertIs(alike(wide, wide), True)
        self.assertIs(term_below(wide, six[3]), True)
        self.assertIs(term_below(six[3], wide), False)


if __name__ == "__main__":
    unittest.main()
