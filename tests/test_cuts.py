"""Possible cuts and truth at cuts: points [65], [66] and [69]."""

import itertools
import random
import unittest

from brute import PAIRED_WORDS, PLAIN_WORDS, kept_orders, some_term, value_in
from helpers import SOME_FACTS, DialCase, first_of
from unseendials.claims import Claim
from unseendials.cuts import cut_witness, is_cut, true_at, walk_cuts
from unseendials.errors import BadGroups, BadWord, NotPaired, TooLarge
from unseendials.facts import Facts
from unseendials.rowforms import high_rows, low_rows
from unseendials.sureness import sure, term_below
from unseendials.terms import word_term
from unseendials.words import dials_of, in_order, points_of, tail_set

SETS = [["x"], ["fx"], ["x", "fx"], ["x", "y", "fx", "fy"], ["fx", "gy"], ["ffx", "x"], ["fgx", "gfx"]]
PAIRED_SETS = [["ax"], ["Ax", "x"], ["aAx", "x", "Ax"], ["ax", "Ay"]]
SEVEN = ["u", "v", "w", "x", "y", "fx", "fy"]


def parts(words):
    """Return all sets of the words in the order of cuts."""
    known = in_order(words)
    return [list(part) for many in range(len(known) + 1)
            for part in itertools.combinations(known, many)]


def cuts_by_hand(words, facts):
    """Return the possible cuts that the orders that keep the facts show, in the order of cuts."""
    shown = set()
    for ranks in kept_orders(words, facts):
        for level in range(len(ranks) + 1):
            shown.add(tuple(word for word in in_order(words) if ranks[word] >= level))
    return [part for part in parts(words) if tuple(part) in shown]


CASES = [(facts, words) for facts in SOME_FACTS for words in (PAIRED_SETS if facts.paired else SETS)]


class TestCuts(DialCase):

    def test_those_that_an_order_shows(self):
        for facts, words in CASES:
            cuts = cuts_by_hand(words, facts)
            self.assertEqual(list(walk_cuts(words, facts)), cuts)
            self.assertEqual((cuts[0], cuts[-1]), ([], in_order(words)))
            for part in parts(words):
                self.assertIs(is_cut(part, words, facts), part in cuts)

    def test_a_cut_is_possible_exactly_if_its_saying_fails(self):
        for facts, words in CASES[::3]:
            for part in parts(words):
                claim = Claim.saying(part, [word for word in words if word not in part])
                self.assertIs(is_cut(part, words, facts), not sure(claim, facts))

    def test_witnesses(self):
        for facts, words in CASES:
            for part in parts(words):
                world = cut_witness(part, words, facts)
                self.assertEqual(world is not None, is_cut(part, words, facts))
                if world is None:
                    continue
                self.assertEqual(world.point_list(), points_of(words))
                self.assertEqual(world.dial_list(), sorted({*dials_of(words), *facts.dial_list()}))
                self.assertEqual(world.facts, facts)
                values = {word: value_in(world, word) for word in words}
                self.assertTrue(all(values[low] < values[high] for high in part
                                    for low in words if low not in part))

    def test_two_are_not_possible(self):
        words = ["x", "y", "fx", "fy"]
        missing = [part for part in parts(words) if part not in list(walk_cuts(words))]
        self.assertEqual(missing, [["x", "fy"], ["y", "fx"]])
        self.assertEqual(list(walk_cuts(["x", "fx"], Facts(("1", "f")))), [[], ["fx"], ["x", "fx"]])

    def test_one_dial(self):
        for m in range(6):
            words = ["f" * j + "x" for j in range(m + 1)]
            up = [words[j:] for j in range(m, 0, -1)]
            down = [words[:j + 1] for j in range(m)]
            both = [("1", "f"), ("f", "1")]
            for pairs, proper in [([], up + down), (both[:1], up), (both[1:], down), (both, [])]:
                told = list(walk_cuts(words, Facts(("g", "1"), *pairs)))[1:-1]
                self.assertEqual(sorted(told), sorted(proper))

    def test_any_order_and_repetitions(self):
        words = ("fx", "x", "fx", "y")
        self.assertEqual(list(walk_cuts(words)), list(walk_cuts(["x", "y", "fx"])))
        self.assertIs(is_cut(("fx", "y", "fx"), words), True)
        self.assertIs(is_cut(["z"], words), False)
        self.assertIs(is_cut(["fx", "gx"], words), False)
        self.assertIsNone(cut_witness(["fx", "z"], words))

    def test_errors_in_order(self):
        for call in (is_cut, cut_witness):
            self.tells(BadWord("f"), call, ["x", "f"], ["g"])
            self.tells(BadWord("g"), call, ["x"], ["x", "g"])
            self.tells(NotPaired("F"), call, ["Fx"], [])
            self.tells(NotPaired("G"), call, ["FGx"], [])
            self.tells(BadGroups(""), call, ["fffffffffffx"], [])
            self.tells(TooLarge("words"), call, [], [*SEVEN, "z"])
            self.tells(TooLarge("words"), call, ["ggggy"], SEVEN)
            self.tells(TooLarge("words"), call, [], ["ffffffffffx"])
        self.assertIs(is_cut(["gggy"], SEVEN), False)
        self.assertIs(is_cut(["fffffffffx"], ["fffffffffx"]), True)
        self.tells(BadWord("g"), first_of, walk_cuts, ["x", "g"])
        self.tells(NotPaired("F"), first_of, walk_cuts, ["Fx", *SEVEN])
        self.tells(BadGroups(""), first_of, walk_cuts, [])
        self.tells(TooLarge("words"), first_of, walk_cuts, [*SEVEN, "z"])
        self.tells(TooLarge("words"), first_of, walk_cuts, ["ffffffffffx"])
        self.assertEqual(len(list(walk_cuts(list("uvwxyz") + ["fx"]))), 128)

    def test_a_generator_waits(self):
        words = ["x"]
        walk = walk_cuts(words)
        words.append("y")
        self.assertEqual(next(walk), [])
        words.append("z")
        self.assertEqual(list(walk), [["x"], ["y"], ["x", "y"]])

    def test_cuts_are_new(self):
        first, *_ = walk_cuts(["x"])
        first.append("y")
        self.assertEqual(list(walk_cuts(["x"])), [[], ["x"]])


class TestTruth(DialCase):

    def test_by_high_and_low_rows(self):
        luck = random.Random(5)
        for _ in range(60):
            term = some_term(luck, PLAIN_WORDS, luck.randint(1, 5))
            for part in parts(term.word_list())[::2]:
                held = true_at(term, part)
                self.assertIs(held, any(set(row) <= set(part) for row in high_rows(term)))
                self.assertIs(held, all(set(row) & set(part) for row in low_rows(term)))

    def test_lessers_and_greaters(self):
        x, fx, y = map(word_term, ["x", "fx", "y"])
        for part in parts(["x", "y", "fx"]):
            self.assertIs(true_at(x, part), "x" in part)
            self.assertIs(true_at(x & fx, part), "x" in part and "fx" in part)
            self.assertIs(true_at(x | fx, part), "x" in part or "fx" in part)
            self.assertIs(true_at((x & fx) | y, part), {"x", "fx"} <= set(part) or "y" in part)
        self.assertIs(true_at((x | y).through("f"), ["gy", "fy", "fy"]), True)

    def test_nowhere_above_by_possible_cuts(self):
        luck = random.Random(6)
        for facts in SOME_FACTS:
            words = (PAIRED_WORDS if facts.paired else PLAIN_WORDS)[:8]
            for _ in range(6):
                some = luck.sample(words, 3)
                s, t = (some_term(luck, some, 3) for _ in range(2))
                both = s.word_list() + t.word_list()
                held = all(true_at(t, cut) for cut in walk_cuts(both, facts) if true_at(s, cut))
                self.assertIs(term_below(s, t, facts), held)

    def test_a_cut_parts_the_values(self):
        s, t, cut = word_term("x"), word_term("fy") & word_term("x"), ["x"]
        self.assertTrue(true_at(s, cut) and not true_at(t, cut))
        world = cut_witness(cut, ["x", "fy"])
        self.assertGreater(s.value_in(world), t.value_in(world))

    def test_errors(self):
        self.tells(BadWord("f"), true_at, word_term("x"), ["x", "f", "g"])
        wide = word_term("ax") | word_term("ay")
        for letter in "bcdefg":
            wide = wide & (word_term(letter + "x") | word_term(letter + "y"))
        self.tells(TooLarge("rows"), true_at, wide, ["x"])
        self.tells(BadWord(""), true_at, wide, [""])
        self.assertEqual(len(tail_set(wide.word_list())), 16)


if __name__ == "__main__":
    unittest.main()
