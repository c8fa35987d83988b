"""Closings and their reasons: point [47]."""

import unittest

from brute import closure, rule_counts, rule_sides, tales_with_facts
from helpers import DialCase
from unseendials.closings import Closing, closing_of
from unseendials.comparisons import Tale, le, lt
from unseendials.errors import BadWord, NoPairs, NotPaired, TooLarge
from unseendials.facts import Facts
from unseendials.words import tail_set

MANY = [letter + "x" for letter in "abcdefghijklmnopqrst"] + ["x", "u", "v", "w"]


class TestClosing(DialCase):

    def walked(self, closing, words, facts, weak, strict=False):
        """Assert that each pair has a reason over pairs that stand before it."""
        met = {(word, word) for word in words}
        for p, q in closing.pair_list():
            self.assertNotIn((p, q), met)
            reason = closing.reason_of(p, q)
            self.assertEqual(reason == ("told",), (p, q) in weak)
            if reason[0] == "chain":
                kind, r = reason
                self.assertNotIn(r, (p, q))
                self.assertLessEqual({(p, r), (r, q)}, met)
            elif reason[0] == "rule":
                kind, rule, a, b, given = reason
                self.assertTrue(rule_counts(rule, a, b, facts))
                self.assertIn(rule, (1, 2, 3, 4, 5) if strict else (1, 2, 3, 4))
                self.assertIn(given, met)
                self.assertIn((given, (p, q)), [rule_sides(rule, a, b, r, s)
                                                for r in words for s in words])
            else:
                self.assertEqual(reason, ("told",))
            met.add((p, q))

    def test_least_and_walked_step_by_step(self):
        for tale, facts in tales_with_facts(1, 12, 8):
            words = tale.tail_list()
            weak = [(one.first, one.second) for one in tale]
            for strict in (False, True) if not facts.paired else (False,):
                closing = closing_of(tale, facts, strict=strict)
                held = closure(words, facts, weak, strict)
                self.assertEqual({(p, q) for p in words for q in words if closing.holds(p, q)}, held)
                self.assertEqual(sorted(closing.pair_list()),
                                 sorted((p, q) for p, q in held if p != q))
                self.walked(closing, words, facts, weak, strict)

    def test_each_rule(self):
        facts = Facts(("a", "b"), paired="ab")
        for weak, given, rule in [(("x", "y"), ("ax", "by"), 1), (("x", "By"), ("ax", "y"), 2),
                                  (("bx", "y"), ("x", "Ay"), 3), (("x", "y"), ("Bx", "Ay"), 4)]:
            closing = Closing(list(given), facts, [weak])
            self.assertEqual(closing.reason_of(*given), ("rule", rule, "a", "b", weak))
        closing = Closing(["fx"], Facts(("f", "g")), [("gx", "fy")], strict=True)
        self.assertEqual(closing.reason_of("x", "y"), ("rule", 5, "f", "g", ("gx", "fy")))
        self.assertIsNone(Closing(["fx"], Facts(("f", "g")), [("gx", "fy")]).reason_of("x", "y"))

    def test_the_still_dial_has_no_fifth_rule(self):
        closing = Closing(["fx"], Facts(("1", "f")), [("fx", "y")], strict=True)
        self.assertEqual(closing.pair_list()[0], ("fx", "y"))
        self.assertEqual(sorted(closing.pair_list()), [("fx", "y"), ("x", "fx"), ("x", "y")])
        self.assertEqual(Closing(["fx", "fy"], None, [("fx", "fy")], strict=True).reason_of("x", "y"),
                         ("rule", 5, "f", "f", ("fx", "fy")))

    def test_nothing_told(self):
        for words in ([], ["x"], ["fx", "gy"]):
            closing = Closing(words, None, [])
            self.assertEqual(closing.pair_list(), [])
        self.assertIs(Closing(["fx"], None, []).holds("x", "x"), True)
        self.assertIsNone(Closing(["fx"], None, []).reason_of("x", "x"))
        self.assertEqual(Closing(["fx"], Facts(("1", "f")), []).reason_of("x", "fx"),
                         ("rule", 1, "1", "f", ("x", "x")))
        closing = Closing(["aAax"], Facts(paired="a"), [])
        self.assertTrue(closing.holds("ax", "aAax") and closing.holds("aAax", "ax"))

    def test_words_outside(self):
        closing = Closing(["fx"], None, [("y", "y")])
        for p, q in [("z", "z"), ("x", "z"), ("z", "x"), ("?", "?"), ("gx", "gx")]:
            self.assertIs(closing.holds(p, q), False)
            self.assertIsNone(closing.reason_of(p, q))
        self.assertIs(closing.holds("y", "y"), True)
        self.assertEqual(closing.pair_list(), [])

    def test_words_of_weak_bring_their_tails(self):
        closing = Closing([], None, [["fx", "gy"]])
        self.assertIs(closing.holds("x", "x"), True)
        self.assertEqual(closing.pair_list(), [("fx", "gy")])
        self.assertEqual(closing.reason_of("fx", "gy"), ("told",))

    def test_strict_comparisons_of_a_tale_count_as_weak_ones(self):
        closing = closing_of(Tale(lt("x", "y"), le("y", "z"), words=["fx", "fz"]))
        self.assertTrue(closing.holds("fx", "fz"))
        self.assertFalse(closing.holds("z", "x"))
        weak = Tale(lt("fx", "fy"))
        self.assertIs(closing_of(weak).holds("x", "y"), False)
        self.assertIs(closing_of(weak, None, strict=True).holds("x", "y"), True)

    def test_example(self):
        closing = Closing(['fx', 'fy'], None, [('x', 'y')])
        self.assertEqual([closing.pair_list(), closing.reason_of('fx', 'fy')],
                         [[('x', 'y'), ('fx', 'fy')], ('rule', 1, 'f', 'f', ('x', 'y'))])

    def test_errors_in_order(self):
        pair = Facts(paired="ab")
        self.tells(BadWord("f"), Closing, ["Fx", "f"], pair, [("g", "x")])
        self.tells(BadWord("g"), Closing, ["Fx"], pair, [("x", "g"), ("h", "x")])
        self.tells(NotPaired("F"), Closing, ["Gx", *MANY], Facts(), [("Fx", "x")])
        self.tells(NotPaired("F"), Closing, ["aFx"], pair, [], strict=True)
        self.tells(NoPairs("b"), Closing, ["Abx"], pair, [], strict=True)
        self.tells(NoPairs("a"), Closing, [*MANY, "y"], Facts(paired="a"), [], strict=True)
        self.tells(NoPairs("a"), Closing, ["fx"], pair, [], strict=True)
        self.tells(TooLarge("words"), Closing, MANY, None, [("y", "x")])
        self.tells(TooLarge("words"), Closing, [*MANY, "z"], None, [], strict=True)
        self.tells(NotPaired("A"), closing_of, Tale(le("Ax", "x")), None)
        self.tells(NoPairs("a"), closing_of, Tale(le("ax", "x")), Facts(paired="a"), strict=True)

    def test_greatest(self):
        self.assertEqual(len(tail_set(MANY)), 24)
        facts = Facts(*zip("abcdefghijklmnopqrst", "bcdefghijklmnopqrsta"))
        closing = Closing(MANY, facts, [("x", "u"), ("u", "ax"), ("ax", "v"), ("v", "w")])
        self.assertEqual(len([pair for pair in closing.pair_list() if pair[1] == "tx"]), 21)

    def test_copies(self):
        words, weak = ["fx"], [("x", "y")]
        closing = Closing(words, None, weak)
        words.append("fy")
        weak.append(("y", "fx"))
        closing.pair_list().clear()
        self.assertEqual(closing.pair_list(), [("x", "y")])


if __name__ == "__main__":
    unittest.main()
