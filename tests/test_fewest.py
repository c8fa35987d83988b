"""Fewest cases and standings: point [51]."""

import itertools
import unittest

from brute import bearing_orders, closure, refuted_by, rows_of, tales_with_facts
from helpers import DialCase
from test_deciding import CROSSED, FACTS_56
from unseendials.comparisons import Comparison, Tale, le, lt
from unseendials.deciding import possible
from unseendials.errors import NoPairs, NotPaired, TooLarge
from unseendials.facts import Facts
from unseendials.fewest import Standing, fewest_cases, fewest_tree, standing

SPARED = Tale(lt("ffx", "fx"), lt("hx", "hfx"))
CYCLE = Tale(lt("fy", "fx"), lt("gx", "gy"))


def refutable(words, facts, told, sharp, depth, strict=False):
    """Return whether some tree with at most that many cases in a row refutes what is told."""
    held = closure(words, facts, told, strict)
    if any((high, low) in held for low, high in sharp):
        return True
    if depth == 0:
        return False
    return any(all(refutable(words, facts, [*told, pair], sharp, depth - 1, strict)
                   for pair in ((p, q), (q, p)))
               for p, q in itertools.combinations(words, 2) if p[0] != q[0])


def fewest_by_hand(tale, facts, most, strict=False):
    """Return the fewest cases, or None if there are more than most."""
    told = [(one.first, one.second) for one in tale]
    sharp = [(one.first, one.second) for one in tale if one.sign == "<"]
    for depth in range(most + 1):
        if refutable(tale.tail_list(), facts, told, sharp, depth, strict):
            return depth
    return None


class TestFewest(DialCase):

    def right(self, tale, facts, strict=False):
        tree = fewest_tree(tale, facts, strict=strict)
        many = fewest_cases(tale, facts, strict=strict)
        if tree is None:
            self.assertIsNone(many)
        else:
            self.assertTrue(refuted_by(tree, tale, facts, strict=strict, tidy=True))
            self.assertEqual((tree.in_a_row(), rows_of(tree)), (many, many))
        return many

    def test_fewest_are_the_fewest(self):
        met = {}
        for tale, facts in tales_with_facts(81, 14, 5, 5):
            many = self.right(tale, facts)
            self.assertEqual(many is None, len(bearing_orders(tale, facts)) > 0)
            if many is not None:
                self.assertEqual(many, fewest_by_hand(tale, facts, 2))
            met[many] = met.get(many, 0) + 1
        self.assertGreater(met[0], 20)

    def test_one_and_two_cases(self):
        for tale, facts, many in [(SPARED, Facts(), 1), (CYCLE, Facts(), 1), (CROSSED, Facts(), 1),
                                  (Tale(lt("x", "x")), Facts(), 0), (Tale(), Facts(), None)]:
            self.assertEqual(self.right(tale, facts), many)
            self.assertEqual(fewest_by_hand(tale, facts, 1), many)

    def test_cases_are_about_words_that_begin_differently(self):
        tale = Tale(lt("hfz", "hfx"), lt("kfx", "kfz"), words=["y"])
        self.assertEqual(self.right(tale, Facts()), 1)

    def test_two_cases_and_ten_tails(self):
        for rows, facts in [
                ("fz < hx, gx < fz, gx < gy, fy < gz", Facts(("1", "h"), ("h", "f"))),
                ("fz < gy, u < fy, gy < gz, gx < gz, x < fu, y < fu, fz < x", Facts(("1", "g"))),
                ("fgy < y, fgx < gy, fy < fgy, ffy < fgx, fgy < x, fx < fgy, fy < fx, fy < ggx, "
                 "ggx < gy", Facts(("f", "g"), ("f", "1"))),
                ("fgy < x, x < hgy, hgy < fgx, hgy < gx, fgy < y, y < fy, hx < x", Facts()),
                ("y < gx, kx < gx, kx < ky, hgky < hx, kx < hx, y < hhx, hx < ky", Facts(("f", "h"))),
                ("x < fhfx, hfx < hy, ggx < ffx, fy < fhfx, hfx < gx, fy < fx", Facts()),
                ("gy < ax, dy < ky, ddy < ky, kdy < aax, aax < ddy, dx < ddy", Facts(("a", "g")))]:
            tale = Tale.listed([lt(*row.split(" < ")) for row in rows.split(", ")])
            self.assertIn(len(tale.tail_list()), (9, 10))
            self.assertEqual(self.right(tale, facts), 2)
            self.assertIsNone(fewest_by_hand(tale, facts, 1))

    def test_strict(self):
        for tale, facts in tales_with_facts(91, 14, 5, 5):
            if not facts.paired:
                many = self.right(tale, facts, strict=True)
                plain = fewest_cases(tale, facts)
                if plain is not None:
                    self.assertLessEqual(many, plain)
                if many is not None:
                    self.assertEqual(many, fewest_by_hand(tale, facts, 2, True))
        self.assertEqual(self.right(CYCLE, Facts(), strict=True), 0)
        weak = Tale(le("fx", "fy"), lt("y", "x"))
        self.assertIsNone(fewest_cases(weak))
        self.assertIsNone(fewest_tree(weak))
        self.assertEqual(self.right(weak, Facts(), strict=True), 0)
        self.assertIsNone(fewest_tree(Tale(lt("x", "y")), strict=True))

    def test_points_56_and_58(self):
        self.assertEqual(fewest_cases(Tale(lt("cdelx", "ahkx")), FACTS_56), 0)
        self.assertEqual(fewest_cases(Tale(lt("mcdelx", "mahkx")), FACTS_56), 1)
        tale = Tale(lt("fx", "gy"), lt("gx", "fy"), lt("hy", "kx"), lt("ky", "hx"))
        self.assertEqual(fewest_cases(tale), 1)

    def test_words_besides(self):
        apart = Tale.listed(list(SPARED), ["gz", "y"])
        self.assertEqual(fewest_cases(apart), fewest_cases(SPARED))
        for tale, facts in tales_with_facts(101, 10, 5, 5):
            many = fewest_cases(tale, facts)
            more = Tale.listed([*tale, lt("u", "fu")])
            if many is not None:
                self.assertLessEqual(fewest_cases(more, facts), many)
                wide = Tale.listed(list(tale), [*tale.tail_list(), "ku"])
                self.assertEqual(fewest_cases(wide, facts), many)

    def test_ten_tails_and_eleven(self):
        words = [letter + "x" for letter in "abcdefghi"]
        self.assertIsNone(fewest_cases(Tale(words=words)))
        self.assertEqual(fewest_cases(Tale(lt("x", "x"), words=words)), 0)
        for call in (fewest_cases, fewest_tree):
            self.tells(TooLarge("words"), call, Tale(words=[*words, "y"]))
            self.tells(NotPaired("F"), call, Tale(words=[*words, "aFy"]), Facts(paired="a"), strict=True)
            self.tells(NoPairs("A"), call, Tale(words=["Afy"]), Facts(paired="ab"), strict=True)
            self.tells(NoPairs("q"), call, Tale(words=[*words, "y"]), Facts(paired="q"), strict=True)


class TestStanding(DialCase):

    def walk(self, found, words, facts, told, sharp, height, strict=False):
        """Assert that a standing is one, as DOC.md words it."""
        self.assertIsInstance(found, Standing)
        self.assertEqual(found.height, height)
        held = closure(words, facts, told, strict)
        self.assertFalse(any((high, low) in held for low, high in sharp))
        for p, q in itertools.product(words, repeat=2):
            answer = found.answer_of(p, q)
            if height == 0 or p[0] == q[0]:
                self.assertIsNone(answer)
                continue
            self.assertEqual(len(answer), 2)
            self.assertIn(answer[0], [le(p, q), le(q, p)])
            self.assertIs(found.answer_of(q, p)[1], answer[1])
            self.walk(answer[1], words, facts, [*told, (answer[0].first, answer[0].second)],
                      sharp, height - 1, strict)

    def test_either_a_refutation_or_a_standing(self):
        met = {True: 0, False: 0}
        for tale, facts in tales_with_facts(111, 6, 4, 5):
            words = tale.tail_list()
            told = [(one.first, one.second) for one in tale]
            sharp = [(one.first, one.second) for one in tale if one.sign == "<"]
            for height in range(3):
                found = standing(tale, facts, height=height)
                many = fewest_cases(tale, facts)
                self.assertEqual(found is None, many is not None and many <= height)
                met[found is None] += 1
                if found is not None:
                    self.walk(found, words, facts, told, sharp, height)
        self.assertGreater(min(met.values()), 20)

    def test_heights_of_one_tale(self):
        self.assertIsNotNone(standing(SPARED, height=0))
        for height in (1, 2, 3):
            self.assertIsNone(standing(SPARED, height=height))
        told = [(one.first, one.second) for one in SPARED]
        self.walk(standing(SPARED, height=0), SPARED.tail_list(), Facts(), told, told, 0)
        self.assertEqual(standing(Tale(), height=3).height, 3)

    def test_strict(self):
        tale = Tale(le("fx", "fy"), lt("y", "x"))
        self.assertIsNone(standing(tale, height=0, strict=True))
        self.walk(standing(tale, height=2), tale.tail_list(), Facts(), [("fx", "fy"), ("y", "x")],
                  [("y", "x")], 2)
        one = Tale(lt("x", "y"), words=["fx"])
        self.walk(standing(one, height=2, strict=True), one.tail_list(), Facts(), [("x", "y")],
                  [("x", "y")], 2, True)

    def test_seven_tails_and_height_three(self):
        words = ["fx", "fy", "gx", "gy", "hx"]
        found = standing(Tale(words=words), height=3)
        self.assertEqual(found.height, 3)
        self.assertEqual(found.answer_of("x", "gy")[1].answer_of("fx", "y")[1].height, 1)
        self.assertIsNone(found.answer_of("fx", "fy"))
        self.assertIsNone(found.answer_of("x", "hy"))

    def test_errors_in_order(self):
        words = ["fx", "fy", "gx", "gy", "hx", "hy"]
        self.tells(TooLarge("words"), standing, Tale(words=words), height=4)
        for height in (-1, 4):
            self.tells(TooLarge("height"), standing, Tale(), height=height)
        self.tells(NotPaired("A"), standing, Tale(words=["Ax", *words]), height=9)
        self.tells(NoPairs("a"), standing, Tale(words=["ax", *words]), Facts(paired="a"), height=9,
                   strict=True)
        self.tells(NoPairs("a"), standing, Tale(words=words), Facts(paired="a"), height=9, strict=True)

    def test_made_by_hand(self):
        low = Standing(0, {})
        answers = {("x", "y"): (le("y", "x"), low)}
        made = Standing(1, answers)
        answers.clear()
        self.assertEqual(made.answer_of("x", "y"), (Comparison("y", "<=", "x"), low))
        self.assertEqual(made.answer_of("y", "x"), (le("y", "x"), low))
        self.assertIsNone(made.answer_of("x", "x"))
        self.assertIsNone(low.answer_of("x", "y"))

    def test_impossible_tales_have_no_standing_of_their_fewest(self):
        for tale in (CYCLE, SPARED, Tale(lt("fx", "gy"), lt("gx", "fy"), lt("y", "x"))):
            many = fewest_cases(tale)
            self.assertEqual(many is None, possible(tale))
            for height in range(4):
                self.assertEqual(standing(tale, height=height) is None,
                                 many is not None and many <= height)


if __name__ == "__main__":
    unittest.main()
