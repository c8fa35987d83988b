"""Choices, different terms counted, and failing rows counted: points [68], [69] and [71]."""

import itertools
import unittest

from brute import claims_with_facts, kept_orders, value_in
from helpers import SOME_FACTS, DialCase, first_of, walk_worlds
from test_cuts import CASES
from unseendials.choices import choice_term, count_terms, failing_counts, walk_choices
from unseendials.claims import Claim
from unseendials.comparisons import le
from unseendials.cuts import true_at, walk_cuts
from unseendials.errors import BadGroups, BadWord, NoPairs, NotPaired, TooLarge
from unseendials.facts import Facts
from unseendials.forms import form
from unseendials.leastchain import least_chain
from unseendials.rows import row_count
from unseendials.sureness import sure
from unseendials.words import dials_of, points_of


def choices_by_hand(words, facts):
    """Return all choices over the words, in the order that DOC.md tells."""
    cuts = list(walk_cuts(words, facts))[1:-1]
    found = []
    for many in range(len(cuts) + 1):
        for some in itertools.combinations(cuts, many):
            if all(other in some for cut in some for other in cuts if set(cut) < set(other)):
                found.append(list(some))
    return found


class TestChoices(DialCase):

    def test_complete_and_in_order(self):
        for facts, words in CASES:
            told = choices_by_hand(words, facts)
            self.assertEqual(list(walk_choices(words, facts)), told)
            self.assertEqual(count_terms(words, facts), len(told))

    def test_one_term_for_each_choice(self):
        for facts, words in CASES[::2]:
            proper = list(walk_cuts(words, facts))[1:-1]
            forms = []
            for choice in walk_choices(words, facts):
                term = choice_term(choice, words)
                self.assertLessEqual(set(term.word_list()), set(words))
                self.assertEqual([cut for cut in proper if true_at(term, cut)], choice)
                forms.append(form(term, words, facts))
            self.assertTrue(all(one != other for one, other in itertools.combinations(forms, 2)))

    def test_numbers(self):
        self.assertEqual(count_terms(["x", "y", "fx", "fy"]), 82)
        self.assertEqual(count_terms(["u", "v", "w", "x"]), 166)
        self.assertEqual(count_terms(["x"]), 1)
        for m in range(4):
            words = ["f" * j + "x" for j in range(m + 1)]
            self.assertEqual(count_terms(words), (m + 1) * (m + 1))
            self.assertEqual(count_terms(words, Facts(("1", "f"))), m + 1)
            self.assertEqual(count_terms(words, Facts(("f", "1"), ("g", "1"))), m + 1)
            self.assertEqual(count_terms(words, Facts(("f", "1"), ("1", "f"))), 1)

    def test_more_facts_have_fewer_terms(self):
        for less, more in itertools.permutations(SOME_FACTS, 2):
            if less.within(more):
                words = ["x", "ax", "Ax"] if less.paired else ["x", "fx", "gx"]
                cuts = list(walk_cuts(words, less))
                self.assertTrue(all(cut in cuts for cut in walk_cuts(words, more)))
                self.assertLessEqual(count_terms(words, more), count_terms(words, less))

    def test_errors_in_order(self):
        for call in (count_terms, lambda words, *facts: first_of(walk_choices, words, *facts)):
            self.tells(BadWord("f"), call, ["x", "f"])
            self.tells(NotPaired("F"), call, ["Fx", "u", "v", "w", "x"])
            self.tells(BadGroups(""), call, [])
            self.tells(TooLarge("words"), call, ["u", "v", "w", "x", "y"])
            self.tells(TooLarge("words"), call, ["ffffffffffx"])
            call(["u", "v", "w", "x", "x", "u"])
            call(["fffffffffx"])

    def test_lists_are_new(self):
        choices = list(walk_choices(["x", "fx"]))
        choices[1][0].append("z")
        self.assertEqual(choices, [[], [["x", "z"]], [["fx"]], [["x"], ["fx"]]])
        self.assertEqual(list(walk_choices(["x", "fx"]))[1], [["x"]])


class TestChoiceTerm(DialCase):

    def test_lists_that_are_no_choice(self):
        term = choice_term([["fx", "x"], ["x"], ["y", "x"], ["x", "x"]], ["x", "y", "fx"])
        self.assertEqual(term.word_list(), ["x"])
        term = choice_term([["y", "x"], ["fx"], ["x", "y", "x"]], ["x", "y", "fx"])
        self.assertEqual(term.word_list(), ["x", "y", "fx"])
        for part, held in [(["x"], False), (["x", "y"], True), (["fx"], True)]:
            self.assertIs(true_at(term, part), held)

    def test_the_empty_choice(self):
        term = choice_term([], ("fx", "x", "x"))
        self.assertEqual(term.word_list(), ["x", "fx"])
        self.assertIs(true_at(term, ["x"]), False)
        self.assertIs(true_at(term, ["x", "fx"]), True)

    def test_errors(self):
        self.tells(BadWord("f"), choice_term, [["x"], ["f"]], ["x"])
        self.tells(BadWord("g"), choice_term, [["x", "g"], ["x"]], ["x"])
        self.tells(BadWord("g"), choice_term, [], ["g"])


class TestFailing(DialCase):

    def test_rankings_that_fail_the_claim(self):
        for claim, facts in claims_with_facts(241, 8, 5):
            if facts.paired:
                continue
            counts = [0] * len(claim.denial().tail_list())
            for ranks in kept_orders(claim.word_list(), facts):
                if not any(ranks[one] <= ranks[other] for label in claim.label_list()
                           for one in claim.side_of(label)[0] for other in claim.side_of(label)[1]):
                    counts[max(ranks.values())] += 1
            self.assertEqual(failing_counts(claim, facts), counts)
            self.assertEqual(sure(claim, facts), not any(counts))
            least = [at + 1 for at, many in enumerate(counts) if many]
            self.assertEqual(least_chain(claim.denial(), facts), min(least, default=None))

    def test_value_rows(self):
        for claim, facts in [(Claim.of(le("fx", "x")), Facts()),
                             (Claim.saying(["fx", "y"], ["x"]), Facts(("1", "f"))),
                             (Claim.named(u=(["fx"], ["gx"]), v=(["x"], ["fx"])), Facts()),
                             (Claim.saying(["ffx"], []), Facts(("f", "1")))]:
            words = claim.denial().tail_list()
            for steps in range(1, 5):
                rows = set()
                for world in walk_worlds(facts, steps, dials_of(words), "".join(points_of(words))):
                    if not claim.holds_in(world):
                        rows.add(tuple(value_in(world, word) for word in words))
                self.assertEqual(row_count(failing_counts(claim, facts), steps), len(rows))
                if len(dials_of(words)) > 1 and steps == 3:
                    break

    def test_six_tails_and_seven(self):
        claim = Claim.saying(["fffffx"], ["x"])
        self.assertEqual(len(failing_counts(claim)), 6)
        self.assertEqual(failing_counts(Claim.saying(list("uvw"), list("xyz")))[0], 0)
        self.tells(TooLarge("words"), failing_counts, Claim.saying(["ffffffx"], []))
        self.tells(NoPairs("a"), failing_counts, Claim.saying(["ffaffffx"], []), Facts(paired="a"))
        self.tells(NotPaired("F"), failing_counts, Claim.saying(["Faffffx"], []), Facts(paired="a"))
        self.assertEqual(failing_counts(Claim.saying(["x"], ["fx"]), Facts(paired="a")), [0, 1])


if __name__ == "__main__":
    unittest.main()
