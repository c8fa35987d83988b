"""The mirror: points [63], [76], [77], [79], [81], [82] and [84]."""

import random
import unittest

from brute import PAIRED_FACTS, PLAIN_FACTS, claims_with_facts, some_claims
from helpers import DialCase
from unseendials.choices import count_terms
from unseendials.claims import Claim
from unseendials.comparisons import le
from unseendials.cuts import is_cut, walk_cuts
from unseendials.errors import BadLetter, NotMade, NotPaired, TooLarge
from unseendials.facts import Facts
from unseendials.fewest import fewest_cases
from unseendials.leastchain import least_chain
from unseendials.mirror import backward_head, mirror_claim, mirror_term
from unseendials.rowforms import high_rows, term_of_rows
from unseendials.sureness import alike, sure, term_below
from unseendials.terms import word_term
from unseendials.turning import turn_claim

PAIR = Facts(paired="ab")


def backward_by_hand(head, facts):
    return "".join(letter.swapcase() if letter.lower() in facts.paired else letter
                   for letter in reversed(head))


def pairs_of(claim):
    """Return all (label, head) with a head of a word of the saying."""
    return {(label, word[:at]) for label in claim.label_list()
            for side in claim.side_of(label) for word in side for at in range(len(word))}


class TestHeads(DialCase):

    def test_backwards(self):
        for head, told in [("", ""), ("f", "f"), ("fg", "gf"), ("aB", "bA"), ("faBg", "gbAf"),
                           ("Aa", "Aa"), ("aa", "AA")]:
            self.assertEqual(backward_head(head, PAIR), told)
            self.assertEqual(backward_head(told, PAIR), head)
        self.assertEqual(backward_head("abc"), "cba")
        self.assertEqual(backward_head("abc", Facts(paired="b")), "cBa")

    def test_errors_in_order(self):
        for head, letter in [("fFx1", "x"), ("1", "1"), ("f u", " ")]:
            self.tells(BadLetter(letter), backward_head, head)
        self.tells(NotPaired("F"), backward_head, "aFG", PAIR)
        self.tells(NotPaired("G"), backward_head, "AGF", PAIR)
        self.assertEqual(backward_head("f" * 45), "f" * 45)


class TestMirrorClaim(DialCase):

    def test_by_hand(self):
        claim = Claim.named(u=(["fgx"], ["y", "aBx"]), v=(["y"], ["Ay", "x"]))
        self.assertEqual(mirror_claim(claim, PAIR),
                         Claim.named(x=(["gfu"], ["bAu", "v"]), y=(["v"], ["u", "av"])))
        self.assertEqual(mirror_claim(Claim.of(le("fgx", "y"))),
                         Claim.named(x=(["gfu"], []), y=([], ["u"])))

    def test_words_of_the_mirror(self):
        for claim, facts in claims_with_facts(251, 10, 12):
            mirror = mirror_claim(claim, facts)
            self.assertEqual((mirror.label_list(), mirror.point_list()),
                             (claim.point_list(), claim.label_list()))
            for which in (0, 1):
                told = {(label, word) for label in mirror.label_list()
                        for word in mirror.side_of(label)[which]}
                self.assertEqual(told, {(word[-1], backward_by_hand(word[:-1], facts) + label)
                                        for label in claim.label_list()
                                        for word in claim.side_of(label)[which]})
            tails = {backward_by_hand(head, facts) + label for label, head in pairs_of(claim)}
            self.assertEqual(set(mirror.denial().tail_list()), tails)
            self.assertEqual(mirror_claim(mirror, facts.mirrored()), claim)

    def test_sure_exactly_if_the_mirror_is(self):
        met = {True: 0, False: 0}
        for claim, facts in claims_with_facts(261, 14, 9):
            held = sure(claim, facts)
            self.assertIs(sure(mirror_claim(claim, facts), facts.mirrored()), held)
            met[held] += 1
        self.assertGreater(min(met.values()), 20)

    def test_facts_with_paired_pairs_turn_round(self):
        facts = Facts(("1", "a"), paired="a")
        claim = Claim.of(le("x", "ax"))
        self.assertIs(sure(claim, facts), True)
        self.assertIs(sure(mirror_claim(claim, facts), facts.mirrored()), True)
        self.assertIs(sure(mirror_claim(claim, facts), Facts(("a", "1"), paired="a")), True)

    def test_least_chains_from_both_ends(self):
        looked = 0
        for claim, facts in claims_with_facts(271, 14, 6):
            mirror = mirror_claim(claim, facts)
            if facts.paired or sure(claim, facts) or len(mirror.denial().tail_list()) > 7:
                continue
            looked += 1
            one = least_chain(claim.denial(), facts)
            other = least_chain(mirror.denial(), facts.mirrored())
            self.assertLessEqual(abs(one - other), 1)
            self.assertLessEqual(one, len(claim.denial().tail_list()))
            self.assertLessEqual(one, 1 + len(pairs_of(claim)))
        self.assertGreater(looked, 20)

    def test_fewest_cases_are_not_kept(self):
        claim = Claim.saying(["fx", "gy"], ["fy", "gx"])
        self.assertEqual(fewest_cases(claim.denial()), 1)
        self.assertEqual(fewest_cases(mirror_claim(claim).denial()), 0)

    def test_mirror_and_turn_commute(self):
        for claim, facts in claims_with_facts(281, 8, 10):
            self.assertEqual(mirror_claim(turn_claim(claim, facts), facts.turned()),
                             turn_claim(mirror_claim(claim, facts), facts.mirrored()))
            self.assertEqual(facts.turned().mirrored(), facts.mirrored().turned())

    def test_errors(self):
        self.tells(NotPaired("F"), mirror_claim, Claim.saying(["gFx", "Gy"], ["x"]))
        self.tells(NotPaired("C"), mirror_claim, Claim.saying(["AfCx"], ["x"]), PAIR)


class TestMirrorTerm(DialCase):

    def test_rows_backwards(self):
        term = (word_term("fax") & word_term("Bx")) | word_term("x").through("ab")
        rows = [[backward_by_hand(word[:-1], PAIR) + "x" for word in row] for row in high_rows(term)]
        told = high_rows(mirror_term(term, PAIR))
        self.assertEqual(sorted(map(sorted, told)), sorted(map(sorted, rows)))
        self.assertEqual(mirror_term(word_term("fgx")).written(), "gfx")

    def test_nowhere_above_from_both_ends(self):
        luck, met = random.Random(2), {True: 0, False: 0}
        for facts in PLAIN_FACTS + PAIRED_FACTS:
            words = ["x", "ax", "Ax", "fx", "aAx", "Aax"] if facts.paired else ["x", "fx", "gx", "fgx"]
            for _ in range(12):
                s, t = (term_of_rows([luck.sample(words, luck.randint(1, 2))
                                      for _ in range(luck.randint(1, 2))]) for _ in range(2))
                held = term_below(s, t, facts)
                self.assertIs(term_below(mirror_term(s, facts), mirror_term(t, facts),
                                         facts.mirrored()), held)
                met[held] += 1
        self.assertGreater(min(met.values()), 20)

    def test_terms_put_on_terms(self):
        luck = random.Random(3)
        for facts in PLAIN_FACTS + PAIRED_FACTS:
            words = ["x", "ax", "Ax", "fx"] if facts.paired else ["x", "fx", "gx", "fgx"]
            for _ in range(6):
                pairs = [luck.sample(words, 2) for _ in range(2)]
                s, t = (term_of_rows([pair] if luck.random() < 0.5 else [[word] for word in pair])
                        for pair in pairs)
                put = mirror_term(s(t), facts)
                other = mirror_term(t, facts)(mirror_term(s, facts))
                self.assertIs(alike(put, other, facts), True)

    def test_cuts_from_both_ends(self):
        for facts in PLAIN_FACTS + PAIRED_FACTS:
            words = ["x", "aAx", "fAx"] if facts.paired else ["x", "fx", "gfx", "ffx"]
            back = {word: backward_by_hand(word[:-1], facts) + "x" for word in words}
            cuts = list(walk_cuts(words, facts))
            self.assertEqual(len(list(walk_cuts(list(back.values()), facts.mirrored()))), len(cuts))
            for cut in cuts:
                self.assertIs(is_cut([back[word] for word in cut], list(back.values()),
                                     facts.mirrored()), True)
            self.assertEqual(count_terms(words, facts),
                             count_terms(list(back.values()), facts.mirrored()))

    def test_errors_in_order(self):
        wide = word_term("ax") | word_term("x")
        for letter in "bcdefg":
            wide = wide & (word_term(letter + "x") | word_term(letter * 2 + "x"))
        self.tells(TooLarge("rows"), mirror_term, wide)
        self.tells(NotMade(("x", "y")), mirror_term, wide & word_term("y"))
        self.tells(NotPaired("H"), mirror_term, wide & word_term("GHy"))
        self.assertEqual(mirror_term(word_term("gfax"), PAIR).written(), "Afgx")


class TestRulesOfClaims(DialCase):

    def test_one_label_and_one_point(self):
        for claim in some_claims(9, 20, ["x", "fx", "gx", "fgx"], 6):
            mirror = mirror_claim(claim)
            self.assertEqual(mirror.label_list(), ["x"])
            self.assertEqual(len(mirror), 1)


if __name__ == "__main__":
    unittest.main()
