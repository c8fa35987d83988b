"""Set worlds: point [50]."""

import itertools
import unittest

from brute import closure, some_tales, tales_with_facts, PLAIN_WORDS
from helpers import DialCase, parts_under
from unseendials.comparisons import Tale, le, lt
from unseendials.deciding import is_refutation, possible
from unseendials.errors import BadLetter, NoPairs, NotPaired, NotRanked, TooLarge
from unseendials.facts import Facts
from unseendials.setworlds import SetWorld
from unseendials.trees import Leaf
from unseendials.words import in_order

PLAIN = [(tale, facts) for tale, facts in tales_with_facts(61, 8, 7) if not facts.paired]


def closed_sets(words, held):
    """Return all sets of the words that are closed downwards, as lists in word order."""
    parts = [[word for word, bit in zip(words, bits) if bit]
             for bits in itertools.product((0, 1), repeat=len(words))]
    return [part for part in parts
            if all(low in part for low, high in held if high in part)]


class TestSetWorld(DialCase):

    def test_sets_of_tails(self):
        for tale, facts in PLAIN:
            words = tale.tail_list()
            held = closure(words, facts, [(one.first, one.second) for one in tale])
            world = SetWorld(tale, facts)
            for word in words:
                self.assertEqual(world.set_of(word), [low for low in words if (low, word) in held])

    def test_it_is_a_partial_order_with_rising_dials_that_keep_the_facts(self):
        for tale, facts in PLAIN[::3]:
            words = tale.tail_list()
            held = closure(words, facts, [(one.first, one.second) for one in tale])
            world = SetWorld(tale, facts)
            things = closed_sets(words, held)
            for dial in "fgh":
                shown = [world.shown_by(dial, thing) for thing in things]
                self.assertTrue(all(row in things for row in shown))
                for (one, low), (other, high) in itertools.product(zip(things, shown), repeat=2):
                    if set(one) <= set(other):
                        self.assertLessEqual(set(low), set(high))
                for low, high in itertools.product("1fgh", repeat=2):
                    if high == dial and high in parts_under(facts, low):
                        fewer = things if low == "1" else [world.shown_by(low, t) for t in things]
                        self.assertTrue(all(set(one) <= set(other) for one, other in zip(fewer, shown)))
                    if low == dial and high == "1" and "1" in parts_under(facts, low):
                        self.assertTrue(all(set(row) <= set(thing) for row, thing in zip(shown, things)))

    def test_values(self):
        for tale, facts in PLAIN:
            world = SetWorld(tale, facts)
            for word in tale.tail_list():
                if len(word) > 1:
                    self.assertEqual(world.shown_by(word[0], world.set_of(word[1:])), world.set_of(word))

    def test_it_bears_exactly_if_no_leaf_refutes(self):
        met = {True: 0, False: 0}
        for tale, facts in PLAIN:
            world = SetWorld(tale, facts)
            leaves = [Leaf(one.first, one.second) for one in tale]
            self.assertIs(world.bears(), not any(is_refutation(leaf, tale, facts) for leaf in leaves))
            self.assertTrue(world.bears() or not possible(tale, facts))
            sets = {word: set(world.set_of(word)) for word in tale.tail_list()}
            holds = all(sets[one.first] < sets[one.second] if one.sign == "<"
                        else sets[one.first] <= sets[one.second] for one in tale)
            self.assertIs(world.bears(), holds)
            met[world.bears()] += 1
        self.assertGreater(min(met.values()), 4)

    def test_partial_orders_allow_more(self):
        tale = Tale(lt("fx", "gy"), lt("gx", "fy"), lt("hy", "kx"), lt("ky", "hx"))
        self.assertIs(SetWorld(tale).bears(), True)
        self.assertIs(possible(tale), False)
        self.assertEqual(SetWorld(tale).set_of("gy"), ["fx", "gy"])

    def test_the_still_dial(self):
        world = SetWorld(Tale(words=["fx", "gx"]), Facts(("1", "f"), ("g", "1")))
        self.assertEqual(world.shown_by("f", ["x", "gx"]), ["x", "fx", "gx"])
        self.assertEqual(world.shown_by("g", ["x", "gx"]), ["gx"])
        self.assertEqual(world.shown_by("h", ["x", "gx"]), [])
        self.assertEqual(world.shown_by("f", ["gx", "x", "gx"]), ["x", "fx", "gx"])

    def test_empty_tale(self):
        world = SetWorld(Tale())
        self.assertIs(world.bears(), True)
        self.assertEqual(world.shown_by("f", []), [])
        self.tells(NotRanked("x"), world.set_of, "x")

    def test_dials_that_no_word_has(self):
        world = SetWorld(Tale(words=["fx"]), Facts(("f", "g"), ("g", "h")))
        self.assertEqual(world.shown_by("h", ["x"]), ["fx"])
        self.assertEqual(world.shown_by("k", ["x"]), [])

    def test_paired_dials_outside_the_words(self):
        facts = Facts(("f", "1"), ("1", "a"), paired="a")
        self.assertIs(SetWorld(Tale(lt("x", "fx")), facts).bears(), False)
        self.assertIs(SetWorld(Tale(lt("fx", "x")), facts).bears(), True)

    def test_errors(self):
        world = SetWorld(Tale(words=["fx"]))
        for word in ["y", "gx", "", "?", "f", "ffx"]:
            self.tells(NotRanked(word), world.set_of, word)
        for dial in ["1", "F", "x", "", "ff", "u"]:
            self.tells(BadLetter(dial), world.shown_by, dial, [])
        many = [letter + "x" for letter in "abcdefghijklmno"]
        self.assertIs(SetWorld(Tale(words=many)).bears(), True)
        self.tells(TooLarge("words"), SetWorld, Tale(words=[*many, "y"]))
        pair = Facts(paired="p")
        self.tells(NoPairs("p"), SetWorld, Tale(words=[*many, "pu"]), pair)
        self.tells(NotPaired("G"), SetWorld, Tale(words=[*many, "pGu"]), pair)

    def test_lists_are_new(self):
        world = SetWorld(Tale(le("x", "y")))
        world.set_of("y").clear()
        self.assertEqual(world.set_of("y"), in_order(["x", "y"]))

    def test_some_tales_of_one_point_more(self):
        for tale in some_tales(71, 40, PLAIN_WORDS, 9, None, 6):
            if not SetWorld(tale).bears():
                self.assertIs(possible(tale), False)


if __name__ == "__main__":
    unittest.main()
