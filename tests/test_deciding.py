"""Bearing worlds and refutations: points [48], [49], [54], [55], [56], [57], [58] and [59]."""

import itertools
import unittest

from brute import bearing_orders, bears, closure, refuted_by, tales_with_facts
from helpers import SOME_FACTS, DialCase
from unseendials.comparisons import Tale, le, lt
from unseendials.deciding import decide, is_refutation, possible
from unseendials.errors import BadSteps, NoPairs, NotPaired, TooLarge
from unseendials.facts import Facts
from unseendials.letters import lies_below
from unseendials.trees import Case, Crowd, Leaf, Node
from unseendials.worlds import World

CROSSED = Tale(lt("fy", "gx"), lt("gy", "fx"), lt("hx", "ky"), lt("kx", "hy"))
FACTS_56 = Facts(("a", "c"), ("h", "c"), ("a", "d"), ("k", "d"), ("h", "e"), ("1", "e"),
                 ("k", "l"), ("1", "l"))
FACTS_59 = Facts(("a", "b"), ("h", "b"), ("b", "c"), ("b", "d"))
TALE_59 = Tale(lt("ky", "lhx"), lt("ly", "kax"), lt("mcx", "oy"), lt("odx", "my"))


def has_pairs(tale, facts):
    return any(letter in facts.paired for word in tale.tail_list() for letter in word.lower())


class TestDecide(DialCase):

    def right(self, tale, facts):
        """Assert that the outcome is a bearing world or a tidy refutation; return whether a world."""
        told = decide(tale, facts)
        known = Facts() if facts is None else facts
        if isinstance(told, World):
            self.assertTrue(bears(told, tale, known))
            many = len(tale.tail_list())
            most = max(1, many) + (2 if has_pairs(tale, known) else 0)
            self.assertLessEqual(told.steps, most)
            self.assertTrue(tale.borne_by(told))
        else:
            self.assertIsInstance(told, Node)
            self.assertTrue(refuted_by(told, tale, known, tidy=True))
            self.assertIs(is_refutation(told, tale, facts), True)
        self.assertIs(possible(tale, facts), isinstance(told, World))
        return isinstance(told, World)

    def test_exactly_if_some_order_bears_it(self):
        met = {True: 0, False: 0}
        for tale, facts in tales_with_facts(11, 25, 5):
            found = self.right(tale, facts)
            self.assertEqual(found, len(bearing_orders(tale, facts)) > 0)
            met[found] += 1
        self.assertGreater(min(met.values()), 40)

    def test_larger_tales(self):
        met = [self.right(tale, facts) for tale, facts in tales_with_facts(31, 6, 12, 7)]
        self.assertIn(True, met)
        self.assertIn(False, met)

    def test_cases_are_about_words_that_begin_differently(self):
        tale = Tale(lt("hfz", "hfx"), lt("kfx", "kfz"), words=["y"])
        self.assertFalse(self.right(tale, None))
        tree = decide(tale)
        self.assertEqual({tree.first, tree.second}, {"x", "z"})

    def test_empty_tale(self):
        for facts in SOME_FACTS + [None]:
            self.assertTrue(self.right(Tale(), facts))
        world = decide(Tale(), Facts(("f", "g")))
        self.assertEqual((world.steps, world.point_list(), world.dial_list()), (1, [], ["f", "g"]))

    def test_words_besides_and_facts_give_points_and_dials(self):
        world = decide(Tale(lt("x", "fy"), words=["gz", "hu"]), Facts(("k", "l"), paired="a"))
        self.assertEqual(world.point_list(), ["u", "x", "y", "z"])
        self.assertEqual(world.dial_list(), ["a", "f", "g", "h", "k", "l"])

    def test_strict_and_weak_about_one_pair(self):
        self.assertTrue(self.right(Tale(le("fx", "gy"), le("gy", "fx")), None))
        self.assertFalse(self.right(Tale(lt("fx", "gy"), le("gy", "fx")), None))
        self.assertFalse(self.right(Tale(lt("fx", "gy"), lt("gy", "fx")), None))
        self.assertTrue(self.right(Tale(lt("fx", "gy"), le("fx", "gy"), lt("fx", "gy")), None))
        self.assertFalse(self.right(Tale(lt("x", "x")), None))
        self.assertTrue(self.right(Tale(le("x", "x")), None))
        self.assertFalse(self.right(Tale(le("y", "x"), lt("fx", "fy")), None))
        self.assertTrue(self.right(Tale(lt("y", "x"), le("fx", "fy")), None))

    def test_sixteen_tails_and_seventeen(self):
        words = [letter + "x" for letter in "abcdefghijklmno"]
        self.assertTrue(self.right(Tale(words=words), None))
        row = Tale.listed([lt(one, other) for one, other in zip(words, words[1:])])
        self.assertTrue(self.right(row, None))
        self.assertFalse(self.right(row.told(lt(words[-1], words[0])), None))
        self.tells(TooLarge("words"), decide, Tale(words=[*words, "px"]))
        self.tells(TooLarge("words"), possible, Tale(lt("y", "x"), words=words))

    def test_errors_in_order(self):
        many = [letter + "x" for letter in "bcdefghijklmnopqrst"]
        for call in (decide, possible):
            self.tells(NotPaired("F"), call, Tale(words=["aFx", "Gfx", *many]), Facts(paired="a"))
            self.tells(NotPaired("A"), call, Tale(le("Ax", "x")))

    def test_what_is_handed_out_is_new(self):
        tale = Tale(lt("x", "y"))
        self.assertIsNot(decide(tale), decide(tale))
        self.assertEqual(len(tale), 1)


class TestIsRefutation(DialCase):

    def test_example(self):
        tree = Case("x", "y", Leaf("gy", "fx"), Leaf("kx", "hy"))
        self.assertIs(is_refutation(tree, CROSSED), True)
        self.assertIs(is_refutation(Case("y", "x", tree.right, tree.left), CROSSED), True)
        self.assertIs(is_refutation(Case("x", "y", tree.right, tree.left), CROSSED), False)
        self.assertIs(is_refutation(tree.left, CROSSED), False)

    def test_each_case_of_two_tails_is_looked_at(self):
        for tale in (CROSSED, Tale(lt("fx", "gx"), lt("gx", "fx")), Tale(lt("ffx", "fx"), lt("hx", "hfx"))):
            tails = tale.tail_list()
            leaves = [Leaf(one.first, one.second) for one in tale]
            for p, q in itertools.product(tails, repeat=2):
                for left, right in itertools.product(leaves, repeat=2):
                    tree = Case(p, q, left, right)
                    self.assertEqual(is_refutation(tree, tale), refuted_by(tree, tale, Facts()))

    def test_cases_may_be_about_any_tails(self):
        tale = Tale(lt("fx", "fx"), words=["fy"])
        leaf = Leaf("fx", "fx")
        for p, q in [("fx", "fy"), ("x", "x"), ("fx", "x")]:
            self.assertIs(is_refutation(Case(p, q, leaf, leaf), tale), True)
        self.assertIs(is_refutation(Case("x", "gx", leaf, leaf), tale), False)
        self.assertIs(is_refutation(Case("z", "x", leaf, leaf), tale), False)
        self.assertIs(is_refutation(Case("x", "", leaf, leaf), tale), False)

    def test_leaves_name_strict_comparisons_of_the_tale(self):
        tale = Tale(lt("x", "y"), le("y", "x"), lt("z", "x"))
        self.assertIs(is_refutation(Leaf("x", "y"), tale), True)
        for p, q in [("y", "x"), ("x", "x"), ("z", "x"), ("z", "y"), ("x", "u"), ("?", "x")]:
            self.assertIs(is_refutation(Leaf(p, q), tale), False)
        self.assertIs(is_refutation(Leaf("x", "y"), Tale(le("x", "y"), le("y", "x"))), False)

    def test_other_nodes(self):
        tale = Tale(lt("x", "x"))
        leaf = Leaf("x", "x")
        for node in (Node(), None, "x", 3, Case("x", "x", leaf, None), Case("x", "x", Node(), leaf),
                     Case("x", "x", leaf, "leaf")):
            self.assertIs(is_refutation(node, tale), False)
            self.assertIs(is_refutation(node, tale, steps=2), False)

    def test_crowdings(self):
        tale = Tale(lt("x", "fx"), lt("fx", "ffx"))
        one, other = Leaf("x", "fx"), Leaf("fx", "ffx")
        crowd = Crowd(["x", "fx", "ffx"], [one, other])
        self.assertIs(is_refutation(crowd, tale, steps=2), True)
        self.assertIs(is_refutation(crowd, tale), False)
        self.assertIs(is_refutation(crowd, tale, steps=1), False)
        self.assertIs(is_refutation(crowd, tale, steps=3), False)
        for row, branches in [(["x", "fx"], [one, other]), (["x", "fx", "ffx"], [one]),
                              (["x", "fx", "ffx"], [other, one]), (["x", "fx", "gx"], [one, other]),
                              (["ffx", "fx", "x"], [other, one]), (["x", "fx", "ffx", "x"], [one, other]),
                              (["x", "fx", "x"], [one, other])]:
            self.assertIs(is_refutation(Crowd(row, branches), tale, steps=2), False)
        self.assertIs(is_refutation(Crowd(["x", "fx"], [one]), tale, steps=1), True)
        self.assertIs(is_refutation(Case("x", "x", crowd, crowd), tale, steps=2), True)
        self.assertIs(is_refutation(Case("x", "x", crowd, crowd), tale), False)
        twice = Tale(lt("x", "x"), words=["y"])
        leaf = Leaf("x", "x")
        self.assertIs(is_refutation(Crowd(["y", "y", "y"], [leaf, leaf]), twice, steps=2), True)

    def test_strict(self):
        tale = Tale(le("fx", "fy"), lt("y", "x"))
        leaf = Leaf("y", "x")
        self.assertIs(is_refutation(leaf, tale), False)
        self.assertIs(is_refutation(leaf, tale, strict=True), True)
        crowd = Crowd(["x", "y"], [leaf])
        self.assertIs(is_refutation(crowd, tale, strict=True), False)
        self.assertIs(is_refutation(crowd, tale, steps=1, strict=True), True)
        self.assertIs(is_refutation(crowd, tale, steps=1), False)

    def test_errors_in_order(self):
        leaf, pair = Leaf("x", "x"), Facts(paired="ab")
        many = [letter + "x" for letter in "cdefghijklmnopqrst"] + list("uvwyz")
        tale = Tale(lt("x", "x"), words=many)
        self.assertEqual(len(tale.tail_list()), 24)
        self.assertIs(is_refutation(leaf, tale), True)
        over = Tale(lt("x", "x"), words=[*many, "ccx"])
        self.tells(TooLarge("words"), is_refutation, leaf, over, steps=0)
        self.tells(TooLarge("words"), is_refutation, leaf, over, pair, steps=61)
        self.tells(NoPairs("a"), is_refutation, leaf, over, pair, strict=True, steps=0)
        self.tells(NoPairs("B"), is_refutation, leaf, Tale(words=["cBx", *many]), pair, steps=0)
        self.tells(NoPairs("b"), is_refutation, leaf, Tale(words=["cbx", *many]), pair, strict=True)
        self.tells(NotPaired("C"), is_refutation, leaf, Tale(words=["Cbx", *many]), pair, strict=True)
        for steps in (0, -1, 61):
            self.tells(BadSteps(steps), is_refutation, leaf, tale, steps=steps)
        self.assertIs(is_refutation(leaf, Tale(lt("x", "x"), words=["ax"]), pair), True)
        self.assertIs(is_refutation(leaf, tale, pair, steps=60), True)


class TestPoints(DialCase):

    def test_more_comparisons(self):
        for tale, facts in tales_with_facts(41, 8, 8):
            more = tale + Tale(le("x", "fx"), lt("y", "fx"))
            self.assertTrue(possible(tale, facts) or not possible(more, facts))

    def test_points_apart(self):
        for (one, facts), (other, same) in zip(tales_with_facts(51, 8, 6), tales_with_facts(52, 8, 6)):
            self.assertEqual(facts, same)
            rows = [type(row)(row.first.replace("x", "u").replace("y", "v"), row.sign,
                              row.second.replace("x", "u").replace("y", "v")) for row in other]
            both = Tale.listed([*one, *rows])
            self.assertEqual(possible(both, facts),
                             possible(one, facts) and possible(Tale.listed(rows), facts))

    def test_powers(self):
        for i, j in itertools.product(range(8), repeat=2):
            p, q = "f" * i + "x", "f" * j + "x"
            self.assertIs(possible(Tale(lt(q, p))), i != j)
        facts = Facts(("f", "g"), ("1", "g"), paired="a")
        for head, m in [("f", 3), ("fg", 2), ("a", 4), ("Aa", 2), ("fA", 3), ("f", 1)]:
            short, long = head + "x", head * m + "x"
            for one, other in [(le("x", short), le("x", long)), (le("x", long), le("x", short)),
                               (le(short, "x"), le(long, "x")), (le(long, "x"), le(short, "x"))]:
                tale = Tale(one, ~other)
                self.assertIs(is_refutation(Leaf((~other).first, (~other).second), tale, facts), True)

    def test_point_56(self):
        for v in ["", "m", "mm", "mn"]:
            tale = Tale(lt(v + "cdelx", v + "ahkx"))
            leaf = Leaf(v + "cdelx", v + "ahkx")
            self.assertIs(is_refutation(leaf, tale, FACTS_56), v == "")
            self.assertIs(is_refutation(Case("hkx", "delx", leaf, leaf), tale, FACTS_56), True)
            self.assertIs(possible(tale, FACTS_56), False)
        for left_out in FACTS_56:
            fewer = Facts.listed([pair for pair in FACTS_56 if pair != left_out])
            self.assertIs(possible(Tale(lt("cdelx", "ahkx")), fewer), True)

    def test_letters(self):
        for facts in SOME_FACTS:
            letters = ["1", "f", "g", *facts.paired, *facts.paired.upper()]
            for p, q in itertools.product(letters, repeat=2):
                one, other = (letter.strip("1") + "x" for letter in (p, q))
                tale = Tale(lt(other, one))
                below = lies_below(facts, p, q)
                self.assertIs(is_refutation(Leaf(other, one), tale, facts), below)
                self.assertIs(possible(tale, facts), not below)

    def test_paired_dials(self):
        for facts in [facts for facts in SOME_FACTS if "a" in facts.paired]:
            for p, q in [("x", "Aax"), ("aAx", "x"), ("aAax", "ax"), ("ax", "aAax"),
                         ("AaAx", "Ax"), ("Ax", "AaAx")]:
                self.assertIs(is_refutation(Leaf(q, p), Tale(lt(q, p)), facts), True)
            still = facts.under("1", "a") and facts.under("a", "1")
            self.assertIs(possible(Tale(lt("x", "Aax")), facts), not still)
            self.assertIs(possible(Tale(lt("aAx", "x")), facts), not still)

    def test_point_58(self):
        rows = [lt("fx", "gy"), lt("gx", "fy"), lt("hy", "kx"), lt("ky", "hx")]
        self.assertIs(possible(Tale.listed(rows)), False)
        for at in range(4):
            self.assertIs(possible(Tale.listed(rows[:at] + rows[at + 1:])), True)

    def test_point_59(self):
        self.assertIs(possible(TALE_59, FACTS_59), False)
        tree = decide(TALE_59, FACTS_59)
        self.assertGreaterEqual(tree.in_a_row(), 2)
        words, told = TALE_59.tail_list(), [(one.first, one.second) for one in TALE_59]

        def closes(*more):
            held = closure(words, FACTS_59, [*told, *more])
            return any((high, low) in held for low, high in told)

        self.assertFalse(any(closes((p, q)) and closes((q, p))
                             for p, q in itertools.combinations(words, 2)))
        more = Tale.listed(list(TALE_59), ["bx"])
        tree = Case("bx", "y", Leaf("mcx", "oy"), Leaf("ky", "lhx"))
        trees = [Case("bx", "y", left, right) for left in map(self.leaf, TALE_59)
                 for right in map(self.leaf, TALE_59)]
        self.assertTrue(any(is_refutation(tree, more, FACTS_59) for tree in trees))
        self.assertFalse(any(is_refutation(tree, TALE_59, FACTS_59) for tree in trees))

    @staticmethod
    def leaf(comparison):
        return Leaf(comparison.first, comparison.second)


if __name__ == "__main__":
    unittest.main()
