"""Orders of heads: point [85]."""

import unittest

from brute import PLAIN_FACTS, PLAIN_WORDS, some_claims
from helpers import DialCase, parts_under
from unseendials.claims import Claim
from unseendials.errors import NoPairs, NotPaired, TooLarge
from unseendials.facts import Facts
from unseendials.headorders import head_order
from unseendials.mirror import mirror_claim
from unseendials.sureness import sure
from unseendials.words import heads, tail_set


def pairs_of(claim):
    """Return all pairs (label, head) of a claim."""
    return sorted({(label, head) for label in claim.label_list() for side in claim.side_of(label)
                   for word in side for head in heads(word)})


def is_head_order(groups, claim, facts):
    """Return whether the groups are an order of heads, as point [85] words it."""
    places = {pair: at for at, group in enumerate(groups) for pair in group}
    if sorted(pair for group in groups for pair in group) != pairs_of(claim) or [] in groups:
        return False
    letters = ["1"] + sorted({letter for _, head in places for letter in head})
    for i, h in places:
        for k, g in places:
            if places[i, h] > places[k, g]:
                continue
            for a in letters:
                for b in letters:
                    one, other = (i, h + a.strip("1")), (k, g + b.strip("1"))
                    if b in parts_under(facts, a) and one in places and other in places \
                            and places[one] > places[other]:
                        return False
    for x in claim.point_list():
        above = [places[label, word[:-1]] for label in claim.label_list()
                 for word in claim.side_of(label)[0] if word[-1] == x]
        below = [places[label, word[:-1]] for label in claim.label_list()
                 for word in claim.side_of(label)[1] if word[-1] == x]
        if any(high <= low for high in above for low in below):
            return False
    return True


class TestHeadOrders(DialCase):

    def test_told_exactly_if_not_sure(self):
        met = {True: 0, False: 0}
        for at, facts in enumerate(PLAIN_FACTS):
            for claim in some_claims(60 + at, 40, PLAIN_WORDS, 9):
                if len(pairs_of(claim)) > 16:
                    continue
                groups = head_order(claim, facts)
                self.assertEqual(groups is None, sure(claim, facts))
                met[groups is None] += 1
                if groups is not None:
                    self.assertTrue(is_head_order(groups, claim, facts), groups)
        self.assertGreater(min(met.values()), 20)

    def test_order_within_groups(self):
        order_of = {("u", ""): 0, ("u", "f"): 1, ("u", "g"): 2, ("u", "fg"): 3, ("v", ""): 4,
                    ("v", "k"): 5}
        claim = Claim.named(v=(["kx"], []), u=(["fgx", "gx"], []))
        groups = head_order(claim)
        self.assertEqual(sorted(pairs_of(claim)), sorted(pair for group in groups for pair in group))
        for group in groups:
            self.assertEqual(group, sorted(group, key=order_of.get))
            self.assertTrue(all(isinstance(pair, tuple) for pair in group))

    def test_example_and_empty_side(self):
        self.assertEqual(head_order(Claim.saying(["fx"], ["x"])), [[("u", "")], [("u", "f")]])
        self.assertIsNone(head_order(Claim.saying(["fx"], ["x"]), Facts(("f", "1"))))
        self.assertIsNone(head_order(Claim.saying(["x"], ["x"]), None))
        self.assertEqual(head_order(Claim.saying([], ["x"], "z")), [[("z", "")]])

    def test_several_points_and_labels(self):
        claim = Claim.named(u=(["fx", "gy"], ["fy", "gx"]))
        self.assertIsNone(head_order(claim))
        claim = Claim.named(u=(["fx"], ["gx"]), v=(["gy"], ["fy"]))
        self.assertTrue(is_head_order(head_order(claim), claim, Facts()))

    def test_facts_may_have_paired_dials(self):
        facts = Facts(("f", "1"), ("1", "a"), paired="a")
        self.assertIsNone(head_order(Claim.saying(["fgx"], ["gx"]), facts))
        claim = Claim.saying(["gfx"], ["fgx"])
        self.assertTrue(is_head_order(head_order(claim, facts), claim, facts))

    def test_sixteen_pairs_and_seventeen(self):
        words = [letter + "x" for letter in "bcdefghijklmnop"]
        claim = Claim.saying(words[:8], words[8:])
        self.assertEqual(len(pairs_of(claim)), 16)
        self.assertTrue(is_head_order(head_order(claim), claim, Facts()))
        wide = Claim.saying(words[:8], [*words[8:], "qy"])
        self.tells(TooLarge("words"), head_order, wide)
        # What counts is the pairs: many tails of words may belong to few of them.
        few = Claim.saying(["ffffffffffffffx"], ["ffffffffffffffy"])
        self.assertEqual((len(pairs_of(few)), len(tail_set(few.word_list()))), (15, 30))
        self.assertTrue(is_head_order(head_order(few), few, Facts()))

    def test_errors_in_order(self):
        words = [letter + "x" for letter in "bcdefghijklmnopq"]
        facts = Facts(paired="a")
        wide = Claim.saying(words[:8], words[8:])
        self.tells(TooLarge("words"), head_order, wide, facts)
        self.tells(NoPairs("a"), head_order, Claim.saying(words[:8], [*words[9:], "aay"]), facts)
        self.tells(NoPairs("A"), head_order, Claim.saying(["ay"], ["Ax"]), facts)
        self.tells(NotPaired("F"), head_order, Claim.saying(["ay"], ["AFx"]), facts)

    def test_the_mirror_has_the_pairs_as_tails(self):
        for claim in some_claims(8, 20, PLAIN_WORDS, 12):
            tails = tail_set(mirror_claim(claim).word_list())
            self.assertEqual(sorted((tail[-1], tail[:-1][::-1]) for tail in tails), pairs_of(claim))


if __name__ == "__main__":
    unittest.main()
