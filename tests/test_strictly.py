"""What strict worlds bear: points [97] to [100], and strict=True where other parts offer it."""

import unittest

from brute import PLAIN_FACTS, PLAIN_WORDS, held_in, refuted_by, some_claims, some_tales
from helpers import DialCase
from strictbrute import strict_orders, strictly_bearing, strictly_bears
from unseendials.claims import Claim
from unseendials.closings import Closing, closing_of
from unseendials.comparisons import Comparison, Tale, le, lt
from unseendials.deciding import is_refutation, possible
from unseendials.errors import NoPairs, NotPaired, TooLarge
from unseendials.facts import Facts
from unseendials.fewest import fewest_cases, fewest_tree, standing
from unseendials.following import follows
from unseendials.knots import KnotWorld
from unseendials.mirror import mirror_claim
from unseendials.strictly import strict_failing, strictly_decide, strictly_follows, strictly_possible
from unseendials.sureness import failing_world, sure
from unseendials.trees import Case, Leaf, Node

STRICT_FACTS = PLAIN_FACTS + [Facts(("1", "f"), ("f", "1")), Facts(("f", "g"), ("g", "h"), ("1", "h"))]
FREE = [letter + "x" for letter in "abcdefghijklmno"]


class TestDeciding(DialCase):

    def right(self, tale, facts):
        """Assert that a strict world or a tree is told, never both; return whether it is a world."""
        end = strictly_decide(tale, facts)
        borne = isinstance(end, KnotWorld)
        if borne:
            self.assertTrue(strictly_bears(end, tale, facts))
        else:
            self.assertIsInstance(end, Node)
            self.assertTrue(refuted_by(end, tale, facts, strict=True, tidy=True))
            self.assertIs(is_refutation(end, tale, facts, strict=True), True)
        self.assertIs(strictly_possible(tale, facts), borne)
        return borne

    def test_as_the_strict_orders_say(self):
        met = {True: 0, False: 0}
        for at, facts in enumerate(STRICT_FACTS):
            for tale in some_tales(300 + at, 30, PLAIN_WORDS, 5, facts):
                borne = self.right(tale, facts)
                self.assertEqual(borne, len(strictly_bearing(tale, facts)) > 0)
                met[borne] += 1
        self.assertGreater(min(met.values()), 40)

    def test_larger_tales(self):
        met = {True: 0, False: 0}
        for at, facts in enumerate(STRICT_FACTS):
            for tale in some_tales(320 + at, 12, PLAIN_WORDS, 14, facts, 7):
                met[self.right(tale, facts)] += 1
        self.assertGreater(min(met.values()), 10)

    def test_nothing_told(self):
        for facts in (None, Facts(("1", "f"), ("g", "k"), ("h", "1"))):
            world = strictly_decide(Tale(), facts)
            self.assertTrue(strictly_bears(world, Tale(), Facts() if facts is None else facts))
            self.assertGreaterEqual(world.knots, 1)
        world = strictly_decide(Tale(words=["fx", "gy"]), Facts(("k", "k")))
        self.assertEqual((world.point_list(), world.dial_list()), (["x", "y"], ["f", "g", "k"]))

    def test_impossible_by_itself(self):
        tree = strictly_decide(Tale(lt("x", "x")))
        self.assertEqual((type(tree), tree.first, tree.second), (Leaf, "x", "x"))

    def test_sixteen_tails_and_seventeen(self):
        for facts in (Facts(), Facts(("a", "b"), ("1", "c"))):
            self.assertTrue(self.right(Tale(words=FREE), facts))
        wide = Tale(lt("x", "y"), words=FREE)
        self.tells(TooLarge("words"), strictly_decide, wide)
        self.tells(TooLarge("words"), strictly_possible, wide)
        self.tells(TooLarge("words"), strictly_follows, Tale(words=FREE), le("x", "y"))
        self.tells(TooLarge("words"), strict_failing, Claim.saying(FREE[:8], [*FREE[8:], "y"]))
        self.assertIs(strictly_follows(Tale(words=FREE), le("x", "ax")), False)
        self.assertIsNotNone(strict_failing(Claim.saying(FREE[:8], FREE[8:])))

    def test_errors_in_order(self):
        facts = Facts(paired="ba")
        for call, wide, capital, paired in [
                (strictly_decide, Tale(lt("x", "y"), words=FREE), Tale(lt("bx", "Fx")), Tale(le("x", "bx"))),
                (strictly_possible, Tale(lt("x", "y"), words=FREE), Tale(lt("bx", "Fx")), Tale(le("x", "bx"))),
                (strict_failing, Claim.saying(FREE[:8], [*FREE[7:]]), Claim.saying(["bx"], ["Fx"]),
                 Claim.of(le("x", "bx")))]:
            self.tells(NoPairs("a"), call, wide, facts)
            self.tells(NotPaired("F"), call, capital, facts)
            self.tells(NoPairs("b"), call, paired, facts)
            self.tells(NotPaired("F"), call, capital)
        self.tells(NoPairs("b"), strictly_follows, Tale(), le("bx", "y"), facts)
        self.tells(NoPairs("a"), strictly_follows, Tale(), le("y", "y"), facts)


class TestFollowing(DialCase):

    def test_as_the_strict_orders_say(self):
        met = {}
        for at, facts in enumerate(STRICT_FACTS):
            for tale in some_tales(340 + at, 10, PLAIN_WORDS, 4, facts, 2):
                words = tale.tail_list()
                orders = strictly_bearing(tale, facts)
                for p in words:
                    for q in words:
                        for sign in ("<=", "<"):
                            one = Comparison(p, sign, q)
                            told = strictly_follows(tale, one, facts)
                            self.assertEqual(told, all(held_in(ranks, one) for ranks in orders))
                            plain = follows(tale, one, facts)
                            self.assertTrue(told or not plain)
                            more = possible(tale.told(~one), facts) and \
                                not strictly_possible(tale.told(~one), facts)
                            self.assertEqual(told and not plain, more)
                            met[told, plain] = met.get((told, plain), 0) + 1
        self.assertEqual(sorted(met), [(False, False), (True, False), (True, True)])

    def test_example(self):
        tale = Tale(le("fx", "fy"), lt("y", "x"))
        self.assertEqual([possible(tale), strictly_possible(tale),
                          strictly_follows(Tale(le("fx", "fy")), le("x", "y"))], [True, False, True])

    def test_new_words(self):
        self.assertIs(strictly_follows(Tale(le("fx", "fy")), le("gx", "gy")), True)
        self.assertIs(strictly_follows(Tale(le("fx", "gy")), le("x", "y"), Facts(("g", "f"))), True)
        self.assertIs(strictly_follows(Tale(le("fx", "gy")), le("x", "y"), Facts(("f", "g"))), False)


class TestClaims(DialCase):

    def test_strict_failing(self):
        met = {True: 0, False: 0}
        for at, facts in enumerate(STRICT_FACTS):
            for claim in some_claims(360 + at, 25, PLAIN_WORDS, 12):
                world = strict_failing(claim, facts)
                # A claim is denied with < alone, so strict worlds make no difference.
                self.assertEqual(world is None, sure(claim, facts))
                self.assertEqual(world is None, failing_world(claim, facts) is None)
                if world is None:
                    self.assertIsNone(strict_failing(mirror_claim(claim, facts), facts.mirrored()))
                else:
                    self.assertTrue(strictly_bears(world, claim.denial(), facts))
                met[world is None] += 1
        self.assertGreater(min(met.values()), 20)

    def test_exactly_as_the_strict_orders_say(self):
        for at, facts in enumerate(STRICT_FACTS):
            for claim in some_claims(380 + at, 12, PLAIN_WORDS, 5):
                held = all(not all(held_in(ranks, one) for one in claim.denial())
                           for ranks in strict_orders(claim.word_list(), facts))
                self.assertEqual(strict_failing(claim, facts) is None, held)

    def test_tales_with_less_than_alone(self):
        for at, facts in enumerate(STRICT_FACTS):
            for tale in some_tales(400 + at, 15, PLAIN_WORDS, 9, facts):
                sharp = Tale.listed([lt(one.first, one.second) for one in tale])
                self.assertEqual(possible(sharp, facts), strictly_possible(sharp, facts))


class TestStrictRefutations(DialCase):

    def test_the_fifth_rule(self):
        closing = Closing([], Facts(("f", "g")), [("gx", "fy")], strict=True)
        self.assertEqual(closing.reason_of("x", "y"), ("rule", 5, "f", "g", ("gx", "fy")))
        self.assertIs(Closing([], Facts(("f", "g")), [("gx", "fy")]).holds("x", "y"), False)
        self.assertIs(Closing([], None, [("fx", "x")], strict=True).holds("x", "fx"), False)
        self.assertIs(closing_of(Tale(le("fx", "fy")), strict=True).holds("x", "y"), True)

    def test_an_impossible_tale_has_one(self):
        for at, facts in enumerate(STRICT_FACTS):
            for tale in some_tales(420 + at, 25, PLAIN_WORDS, 8, facts):
                if possible(tale, facts):
                    continue
                tree = fewest_tree(tale, facts, strict=True)
                self.assertTrue(refuted_by(tree, tale, facts, strict=True, tidy=True))
                many = fewest_cases(tale, facts, strict=True)
                self.assertEqual(tree.in_a_row(), many)
                self.assertLessEqual(many, fewest_cases(tale, facts))

    def test_none_means_that_there_is_none(self):
        for at, facts in enumerate(STRICT_FACTS):
            for tale in some_tales(440 + at, 12, PLAIN_WORDS, 7, facts, 5):
                many = fewest_cases(tale, facts, strict=True)
                self.assertEqual(many is None, strictly_possible(tale, facts))
                for height in (0, 1):
                    found = standing(tale, facts, height=height, strict=True)
                    self.assertEqual(found is None, many is not None and many <= height)

    def test_fewer_than_plain_ones(self):
        claim = Claim.saying(["fx", "gy"], ["fy", "gx"])
        self.assertEqual(fewest_cases(claim.denial()), 1)
        self.assertEqual(fewest_cases(claim.denial(), strict=True), 0)
        tale = claim.denial()
        self.assertIs(closing_of(tale, strict=True).holds("y", "x"), True)
        self.assertIs(closing_of(tale, strict=True).holds("x", "y"), True)

    def test_one_case_is_needed(self):
        claim = Claim.of(le("cgx", "cfy"), le("dfx", "dgy"), le("pky", "phx"), le("qhy", "qkx"))
        denial = claim.denial()
        tree = Case("x", "y", Leaf("cfy", "cgx"), Leaf("phx", "pky"))
        self.assertIs(is_refutation(tree, denial, strict=True), True)
        self.assertTrue(refuted_by(tree, denial, Facts(), strict=True, tidy=True))
        self.assertEqual(len(denial.tail_list()), 18)
        self.assertIs(is_refutation(Leaf("cfy", "cgx"), denial, strict=True), False)
        closing = closing_of(denial, strict=True)
        for one in denial:
            self.assertIs(closing.holds(one.second, one.first), False)

    def test_errors_where_other_parts_offer_it(self):
        facts = Facts(("b", "b"), paired="ba")
        tale = Tale(lt("x", "y"), words=FREE)
        for call in (lambda one: fewest_cases(one, facts, strict=True),
                     lambda one: fewest_tree(one, facts, strict=True),
                     lambda one: standing(one, facts, height=9, strict=True),
                     lambda one: is_refutation(Leaf("x", "y"), one, facts, strict=True),
                     lambda one: closing_of(one, facts, strict=True)):
            self.tells(NoPairs("a"), call, tale)
            self.tells(NoPairs("b"), call, Tale(lt("bx", "y")))
            self.tells(NotPaired("F"), call, Tale(lt("bx", "Fy")))


if __name__ == "__main__":
    unittest.main()
