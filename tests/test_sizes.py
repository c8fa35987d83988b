"""Calls at the greatest sizes that are let end within a few seconds, and errors change nothing."""

import random
import time
import unittest

from brute import PLAIN_WORDS, refuted_by, some_term
from helpers import DialCase
from unseendials.choices import count_terms, failing_counts
from unseendials.claims import Claim
from unseendials.closings import Closing
from unseendials.comparisons import Tale, le, lt
from unseendials.cuts import walk_cuts
from unseendials.cutworlds import cut_world, failing_numbers
from unseendials.deciding import decide, is_refutation, possible
from unseendials.errors import BadSaying, DialError, TooLarge
from unseendials.facts import Facts
from unseendials.fewest import fewest_cases, standing
from unseendials.following import consequences, follows
from unseendials.forms import form, parting_cut
from unseendials.leastchain import chain_tree, least_chain
from unseendials.mirror import mirror_claim, mirror_term
from unseendials.rowforms import high_rows, term_of_rows
from unseendials.setworlds import SetWorld
from unseendials.sureness import alike, denial_tree, sure
from unseendials.terms import word_term
from unseendials.thinning import thin_rows
from unseendials.trees import Case, Leaf
from unseendials.turning import turn_claim, turn_tale, turn_world
from unseendials.words import tail_set
from unseendials.worlds import World

SECONDS = 6
FREE = [letter + "x" for letter in "abcdefghijklmno"]
WIDE = ["fx", "fy", "fz", "gx", "gy", "gz", "hx", "hy", "hz", "kx", "ky", "kz", "lx"]
DEEP = ["fgfgfgfgfgfgfgfx"]
RING = Facts(*zip("abcdefghijklmnopqrst", "bcdefghijklmnopqrsta"))
WOVEN = Facts(("f", "g"), ("h", "g"), ("1", "h"), ("k", "1"), ("l", "f"))


def crossing(f, g, p, q):
    """Return comparisons that together refute p <= q."""
    return [lt(f + q, g + p), lt(g + q, f + p)]


class TestSizes(DialCase):

    def setUp(self):
        self.began = time.perf_counter()

    def tearDown(self):
        self.assertLess(time.perf_counter() - self.began, SECONDS)

    def test_closing(self):
        words = [letter + "x" for letter in "abcdefghijklmnopqrst"] + ["u", "v", "w"]
        closing = Closing(words, RING, [("ax", "u"), ("u", "bx"), ("v", "x"), ("x", "v")])
        self.assertEqual(len(tail_set(words)), 24)
        self.assertGreater(len(closing.pair_list()), 420)

    def test_deciding_and_following(self):
        for words in (FREE, WIDE, DEEP):
            for facts in (None, WOVEN, RING):
                self.assertEqual(len(tail_set(words)), 16)
                self.assertIsInstance(decide(Tale(words=words), facts), World)
                rows = consequences(Tale(lt(words[0], "x"), words=words), facts)
                self.assertGreater(len(rows), 0)
                self.assertIs(follows(Tale(words=words), le("x", words[-1]), facts), False)

    def test_deciding_crossed_tales(self):
        rows = crossing("f", "g", "x", "y") + crossing("h", "k", "y", "z") + crossing("l", "m", "z", "x")
        tale = Tale.listed(rows, ["u"])
        self.assertEqual(len(tale.tail_list()), 16)
        self.assertTrue(refuted_by(decide(tale), tale, Facts(), tidy=True))
        for at in range(len(tale)):
            self.assertIs(possible(tale.without(at)), True)

    def test_walking_a_great_tree(self):
        words = [letter + "x" for letter in "abcdefghijklmnopqrs"] + ["u", "v", "w", "y"]
        tale = Tale(lt("y", "y"), words=words)
        self.assertEqual(len(tale.tail_list()), 24)
        node = Leaf("y", "y")
        for at in range(120):
            node = Case(words[at % 19], words[(at + 1) % 19], node, Leaf("y", "y"))
        self.assertIs(is_refutation(node, tale), True)

    def test_fewest_and_standings(self):
        tale = Tale.listed([lt(*row.split(" < ")) for row in (
            "fgy < x, x < hgy, hgy < fgx, hgy < gx, fgy < y, y < fy, hx < x").split(", ")])
        tale = Tale.listed(list(tale), ["kx"])
        self.assertEqual(len(tale.tail_list()), 10)
        self.assertEqual(fewest_cases(tale), 2)
        self.assertIsNone(fewest_cases(Tale(words=FREE[:9])))
        for words in (FREE[:6], ["fx", "fy", "gx", "gy", "hx"], ["ffffffx"]):
            self.assertIsNotNone(standing(Tale(words=words), height=3))

    def test_set_worlds(self):
        world = SetWorld(Tale(lt("x", "y"), words=WIDE), WOVEN)
        self.assertIs(world.bears(), True)
        self.assertIn("gy", world.shown_by("g", world.set_of("y")))

    def test_least_chains(self):
        for words in ([*"uvwxyz", "fx"], ["fffffx", "y"], ["fx", "fy", "gx", "gy", "hx"]):
            tale = Tale(words=words)
            self.assertEqual(len(tale.tail_list()), 7)
            self.assertEqual(least_chain(tale), 1)
            self.assertIsNone(chain_tree(tale, steps=60))
        tale = Tale.listed(crossing("f", "g", "x", "y")[:1] + [lt("gx", "fx"), lt("x", "hx")])
        many = least_chain(tale)
        tree = chain_tree(tale, steps=many - 1)
        self.assertTrue(refuted_by(tree, tale, Facts(), steps=many - 1))

    def test_claims(self):
        for words in (FREE, WIDE[:12]):
            claim = Claim.saying(words[:8], words[8:])
            self.assertIs(sure(claim, WOVEN), denial_tree(claim, WOVEN) is not None)
            self.assertEqual(mirror_claim(mirror_claim(claim)), claim)
            self.assertEqual(turn_claim(turn_claim(claim)), claim)
        self.assertEqual(len(failing_counts(Claim.saying(["x", "y", "z"], ["u", "v", "w"]))), 6)

    def test_cuts_forms_and_choices(self):
        seven = [*"uvwxyz", "fx"]
        self.assertEqual(len(list(walk_cuts(seven, WOVEN))), 128)
        rows = [[seven[at], seven[at + 1]] for at in range(6)]
        self.assertEqual(len(form(term_of_rows(rows), seven)), 6)
        self.assertEqual(parting_cut(word_term("u"), term_of_rows([seven])), ["u"])
        self.assertEqual(len(form(word_term("fffffffffx"))), 1)
        self.assertEqual(count_terms(list("uvwx")), 166)

    def test_terms_of_many_rows(self):
        wide = deep = None
        for one, other in zip(WIDE[0:12:2], WIDE[1:12:2]):
            pair = word_term(one) | word_term(other)
            wide = pair if wide is None else wide & pair
            pair = word_term(one) & word_term(other)
            deep = pair if deep is None else deep | pair
        self.assertEqual(len(high_rows(wide)), 64)
        for facts in (None, WOVEN, RING):
            self.assertIs(alike(wide, wide, facts), True)
            self.assertIs(alike(wide, deep, facts), facts is RING)
            for term in (wide, deep):
                self.assertIs(alike(term, term_of_rows(thin_rows(term, facts)), facts), True)

    def test_made_terms_backwards(self):
        luck = random.Random(1)
        words = [word for word in PLAIN_WORDS if word[-1] == "x"]
        for _ in range(20):
            term = some_term(luck, words, 5)
            self.assertIs(alike(mirror_term(mirror_term(term)), term), True)

    def test_worlds_of_sixty_steps(self):
        world = World(60, {"x": 59}, {"a": [0] * 30 + [59] * 30}, Facts(paired="a"))
        self.assertEqual(turn_world(turn_world(world)), world)
        small = World(59, {"x": 3}, {"a": [0] * 30 + [58] * 29}, Facts(paired="a"))
        claim = Claim.of(le("ax", "Ax"), le("x", "AAx"))
        self.assertIsNone(failing_numbers(claim, small))
        self.assertEqual(cut_world(small, {"u": 59}).steps, 60)


class TestErrorsChangeNothing(DialCase):

    def test_tales_and_claims(self):
        tale = Tale(lt("x", "y"), words=FREE)
        for call in (lambda: decide(tale), lambda: least_chain(tale), lambda: SetWorld(tale),
                     lambda: consequences(tale), lambda: fewest_cases(tale),
                     lambda: standing(tale, height=9), lambda: turn_tale(tale + Tale(words=["Ax"]))):
            with self.assertRaises(DialError):
                call()
            self.assertEqual((len(tale), len(tale.tail_list())), (1, 17))
        first, second = Claim.of(le("x", "y")), Claim.of(le("y", "x"))
        with self.assertRaises(BadSaying):
            first + second
        self.assertEqual((first, second), (Claim.of(le("x", "y")), Claim.of(le("y", "x"))))

    def test_lists_that_are_handed_in(self):
        words, weak = ["fx", "y", "fx"], [("x", "y")]
        Closing(words, None, weak)
        list(walk_cuts(words))
        form(word_term("fx"), words)
        self.assertEqual((words, weak), (["fx", "y", "fx"], [("x", "y")]))
        numbers = {"x": 0}
        with self.assertRaises(DialError):
            cut_world(World(1, {}, {}), {**numbers, "a": 1})
        self.tells(TooLarge("words"), count_terms, [*"uvwxy"])
        self.assertEqual(numbers, {"x": 0})


if __name__ == "__main__":
    unittest.main()
