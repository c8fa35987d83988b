"""What follows from tales: point [53]."""

import itertools
import unittest

from brute import bearing_orders, held_in, kept_orders, tales_with_facts
from helpers import DialCase
from unseendials.comparisons import Tale, le, lt
from unseendials.deciding import possible
from unseendials.errors import NotPaired, TooLarge
from unseendials.facts import Facts
from unseendials.following import consequences, follows


def told_rows(tale, facts=None):
    return [one.written() for one in consequences(tale, facts)]


class TestFollows(DialCase):

    def test_in_each_order_that_bears_it(self):
        met = {True: 0, False: 0}
        for tale, facts in tales_with_facts(131, 8, 5, 3):
            orders = bearing_orders(tale, facts)
            for p, q in itertools.product(tale.tail_list(), repeat=2):
                for one in (le(p, q), lt(p, q)):
                    held = all(held_in(ranks, one) for ranks in orders)
                    self.assertIs(follows(tale, one, facts), held)
                    self.assertIs(possible(tale.told(~one), facts), not held)
                    met[held] += 1
        self.assertGreater(min(met.values()), 200)

    def test_words_of_the_comparison_count(self):
        for facts, one, held in [(Facts(("1", "f")), le("x", "fgx"), False),
                                 (Facts(("1", "f"), ("1", "g")), le("x", "fgx"), True),
                                 (Facts(paired="a"), le("x", "Aax"), True),
                                 (Facts(), le("hx", "hx"), True), (Facts(), lt("hx", "hx"), False)]:
            self.assertIs(follows(Tale(), one, facts), held)
        self.assertIs(follows(Tale(lt("fx", "fy")), lt("x", "y")), True)
        self.assertIs(follows(Tale(le("fx", "fy")), le("x", "y")), False)
        self.assertIs(follows(Tale(le("x", "y")), le("ghx", "ghy")), True)

    def test_in_any_greater_tail_set(self):
        tale, facts = Tale(le("x", "y")), Facts(("1", "f"))
        for one, held in [(le("x", "fy"), True), (lt("x", "fy"), False), (le("fx", "y"), False)]:
            orders = [ranks for ranks in kept_orders(["fx", "fy"], facts)
                      if held_in(ranks, le("x", "y"))]
            self.assertIs(follows(tale, one, facts), held)
            self.assertIs(all(held_in(ranks, one) for ranks in orders), held)

    def test_everything_follows_from_an_impossible_tale(self):
        for one in [lt("x", "x"), lt("gy", "z"), le("y", "x")]:
            self.assertIs(follows(Tale(lt("x", "x")), one), True)

    def test_sixteen_tails_and_seventeen(self):
        words = [letter + "x" for letter in "abcdefghijklmn"]
        self.assertIs(follows(Tale(words=words), le("x", "y")), False)
        self.tells(TooLarge("words"), follows, Tale(words=words), le("fy", "x"))
        self.tells(NotPaired("F"), follows, Tale(words=words), le("Fy", "x"))
        self.tells(NotPaired("F"), follows, Tale(words=["GFx"]), le("Ay", "x"), Facts(paired="a"))

    def test_the_tale_stays(self):
        tale = Tale(le("x", "y"))
        follows(tale, lt("z", "y"))
        self.assertEqual((len(tale), tale.tail_list()), (1, ["x", "y"]))


class TestConsequences(DialCase):

    def test_complete_and_in_order(self):
        for tale, facts in tales_with_facts(141, 12, 5, 3):
            orders = bearing_orders(tale, facts)
            rows = []
            for p, q in itertools.product(tale.tail_list(), repeat=2):
                found = [one for one in (lt(p, q), le(p, q))
                         if p != q and all(held_in(ranks, one) for ranks in orders)]
                rows.extend(found[:1])
            self.assertEqual(consequences(tale, facts), rows)

    def test_larger_tales(self):
        for tale, facts in tales_with_facts(151, 2, 9, 4):
            rows = []
            for p, q in itertools.product(tale.tail_list(), repeat=2):
                found = [one for one in (lt(p, q), le(p, q)) if p != q and follows(tale, one, facts)]
                rows.extend(found[:1])
            self.assertEqual(consequences(tale, facts), rows)

    def test_some(self):
        self.assertEqual(told_rows(Tale(lt("fx", "fy"))), ["x < y", "fx < fy"])
        self.assertEqual(told_rows(Tale(le("fx", "fy"))), ["fx <= fy"])
        self.assertEqual(told_rows(Tale(le("x", "y"), le("y", "x"))), ["x <= y", "y <= x"])
        self.assertEqual(told_rows(Tale(lt("x", "x"), words=["fx"])), ["x < fx", "fx < x"])
        self.assertEqual(told_rows(Tale(words=["aAax"]), Facts(paired="a")),
                         ["x <= Aax", "ax <= aAax", "aAax <= ax"])
        self.assertEqual(told_rows(Tale()), [])
        self.assertEqual(told_rows(Tale(words=["x"]), Facts(("1", "f"))), [])

    def test_sixteen_tails_and_seventeen(self):
        words = [letter + "x" for letter in "abcdefghijklmno"]
        self.assertEqual(told_rows(Tale(words=words)), [])
        row = Tale.listed([lt(p, q) for p, q in zip(words, words[1:])])
        self.assertEqual(len(consequences(row)), 105)
        same = Tale.listed([le(p, q) for p, q in zip([*words, "x"], [*words[1:], "x", words[0]])])
        self.assertEqual(len(consequences(same)), 240)
        self.tells(TooLarge("words"), consequences, Tale(words=[*words, "y"]))
        self.tells(NotPaired("P"), consequences, Tale(words=[*words, "Px"]))

    def test_lists_are_new(self):
        tale = Tale(lt("x", "y"))
        consequences(tale).clear()
        self.assertEqual(len(consequences(tale)), 1)


if __name__ == "__main__":
    unittest.main()
