"""The turn: points [83] and [84]."""

import random
import unittest

from brute import (PAIRED_WORDS, PLAIN_WORDS, claims_with_facts, keeps_told, some_term, some_worlds,
                   tales_with_facts, value_in)
from helpers import SOME_FACTS, DialCase, back_of
from unseendials.claims import Claim
from unseendials.comparisons import Comparison, Tale, le, lt
from unseendials.deciding import possible
from unseendials.errors import BadWord, NotPaired
from unseendials.facts import Facts
from unseendials.fewest import fewest_cases
from unseendials.leastchain import least_chain
from unseendials.sureness import sure
from unseendials.terms import word_term
from unseendials.turning import turn_claim, turn_tale, turn_term, turn_word, turn_world
from unseendials.worlds import World

PAIR = Facts(paired="ab")


class TestWords(DialCase):

    def test_letters_in_their_places(self):
        for word, turned in [("x", "x"), ("fx", "fx"), ("aBfx", "Abfx"), ("AAgby", "aagBy")]:
            self.assertEqual(turn_word(word, PAIR), turned)
            self.assertEqual(turn_word(turned, PAIR), word)
        self.assertEqual(turn_word("abx"), "abx")

    def test_errors(self):
        self.tells(BadWord("ab"), turn_word, "ab", PAIR)
        self.tells(NotPaired("G"), turn_word, "aFGx", PAIR)
        self.tells(NotPaired("A"), turn_word, "Ax")


class TestTales(DialCase):

    def test_comparison_by_comparison(self):
        tale = Tale(le("ax", "y"), lt("fy", "Bx"), le("ax", "y"), words=["Agx", "y"])
        turned = turn_tale(tale, PAIR)
        self.assertEqual([one.written() for one in turned], ["y <= Ax", "bx < fy", "y <= Ax"])
        self.assertEqual(turned.tail_list(), ["x", "y", "Ax", "bx", "fy", "gx", "agx"])
        self.assertEqual((len(turn_tale(Tale())), turn_tale(Tale()).tail_list()), (0, []))

    def test_twice_and_tails(self):
        for tale, facts in tales_with_facts(301, 6, 10):
            turned = turn_tale(tale, facts)
            self.assertEqual(sorted(turned.tail_list()),
                             sorted(turn_word(word, facts) for word in tale.tail_list()))
            again = turn_tale(turned, facts.turned())
            self.assertEqual((list(again), again.tail_list()), (list(tale), tale.tail_list()))

    def test_verdicts_fewest_cases_and_least_chains(self):
        met = set()
        for tale, facts in tales_with_facts(311, 10, 6, 5):
            turned, other = turn_tale(tale, facts), facts.turned()
            self.assertIs(possible(turned, other), possible(tale, facts))
            many = fewest_cases(tale, facts)
            self.assertEqual(fewest_cases(turned, other), many)
            met.add(many)
            if not facts.paired:
                self.assertEqual(least_chain(turned, other), least_chain(tale, facts))
        self.assertLessEqual({None, 0}, met)

    def test_errors(self):
        self.tells(NotPaired("G"), turn_tale, Tale(le("x", "FGx"), words=["HFGx"]))
        self.tells(NotPaired("F"), turn_tale, Tale(le("x", "Gx"), words=["Fy"]))


class TestClaims(DialCase):

    def test_sides_are_exchanged(self):
        claim = Claim.named(u=(["ax", "fy"], ["Bx"]), v=([], ["y"]))
        self.assertEqual(turn_claim(claim, PAIR), Claim.named(u=(["bx"], ["fy", "Ax"]), v=(["y"], [])))

    def test_twice_and_verdicts(self):
        for claim, facts in claims_with_facts(321, 8, 9):
            turned = turn_claim(claim, facts)
            self.assertEqual(turn_claim(turned, facts.turned()), claim)
            self.assertIs(sure(turned, facts.turned()), sure(claim, facts))

    def test_errors(self):
        self.tells(NotPaired("F"), turn_claim, Claim.saying(["aFx"], ["GFx"]), PAIR)


class TestTerms(DialCase):

    def test_built_like_the_old_one(self):
        term = (word_term("ax") & word_term("Afy")).through("fB") | word_term("x")
        self.assertEqual(turn_term(term, PAIR).written(), "(fb(Ax | afy) & x)")
        self.assertEqual(turn_term(word_term("ax") & word_term("Afy"), Facts(paired='a')).written(),
                         '(Ax | afy)')
        self.assertEqual(turn_term(word_term("ax")).written(), "ax")

    def test_twice_and_values(self):
        luck = random.Random(3)
        for facts in SOME_FACTS:
            dials = "f" if facts.paired else "fg"
            words = [word for word in (PAIRED_WORDS if facts.paired else PLAIN_WORDS)
                     if "h" not in word]
            for world in some_worlds(4, 5, facts, dials, "xy"):
                term = some_term(luck, words, 4) & some_term(luck, words, 2).through("f")
                turned = turn_term(term, facts)
                self.assertEqual(turn_term(turned, facts.turned()), term)
                swapped = term.written().translate(str.maketrans("&|", "|&"))
                self.assertEqual(turned.written(), "".join(
                    letter.swapcase() if letter.lower() in facts.paired and letter != " " else letter
                    for letter in swapped))
                self.assertEqual(turned.value_in(turn_world(world)),
                                 world.steps - 1 - term.value_in(world))

    def test_errors(self):
        self.tells(NotPaired("F"), turn_term, word_term("aFx") & word_term("GFx"), PAIR)


class TestWorlds(DialCase):

    def test_upside_down(self):
        for facts in SOME_FACTS:
            for world in some_worlds(5, 6, facts, "f" if facts.paired else "fg", "xy"):
                turned, last = turn_world(world), world.steps - 1
                self.assertEqual((turned.steps, turned.facts), (world.steps, facts.turned()))
                self.assertTrue(keeps_told(turned, facts.turned()))
                self.assertEqual((turned.point_list(), turned.dial_list()),
                                 (world.point_list(), world.dial_list()))
                for point in "xy":
                    self.assertEqual(turned.place_of(point), last - world.place_of(point))
                for dial in world.dial_list():
                    table = world.table_of(dial)
                    shown = back_of(table) if dial in facts.paired else table
                    self.assertEqual(turned.table_of(dial),
                                     [last - shown[last - c] for c in range(last + 1)])
                for dial in facts.paired:
                    self.assertEqual(turned.table_of(dial.upper()),
                                     [last - world.table_of(dial)[last - c] for c in range(last + 1)])
                self.assertEqual(turn_world(turned), world)

    def test_comparisons_hold_in_the_turned_world(self):
        for facts in SOME_FACTS:
            words = ["x", "ax", "Ay", "fAx"] if facts.paired else ["x", "fy", "gfx", "gy"]
            for world in some_worlds(6, 4, facts, "f" if facts.paired else "fg", "xy"):
                turned = turn_world(world)
                for p in words:
                    for q in words:
                        for sign in ("<", "<="):
                            tale = Tale(Comparison(p, sign, q))
                            self.assertIs(turn_tale(tale, facts).borne_by(turned), tale.borne_by(world))
                    self.assertEqual(value_in(turned, turn_word(p, facts)),
                                     world.steps - 1 - value_in(world, p))

    def test_small_and_great_worlds(self):
        self.assertEqual(turn_world(World(1, {}, {})), World(1, {}, {}))
        world = World.still(60, {"x": 7}, "f")
        self.assertEqual(turn_world(world).place_of("x"), 52)


if __name__ == "__main__":
    unittest.main()
