"""The one form of alike terms: point [67]."""

import random
import unittest

from brute import PAIRED_WORDS, PLAIN_WORDS, kept_orders, some_term, term_value
from helpers import SOME_FACTS, DialCase
from test_cuts import SEVEN
from unseendials.cuts import true_at, walk_cuts
from unseendials.errors import BadGroups, BadWord, NotPaired, NotRanked, TooLarge
from unseendials.facts import Facts
from unseendials.forms import form, form_term, parting_cut
from unseendials.rowforms import high_rows, term_of_rows
from unseendials.sureness import alike, term_below
from unseendials.terms import word_term
from unseendials.words import in_order


def some_pairs(seed, many):
    """Return facts, words and two terms over these words."""
    luck, rows = random.Random(seed), []
    for facts in SOME_FACTS:
        words = (PAIRED_WORDS if facts.paired else PLAIN_WORDS)[:8]
        for _ in range(many):
            some = luck.sample(words, 3)
            rows.append((facts, some, *(some_term(luck, some, luck.randint(1, 4)) for _ in range(2))))
    return rows


class TestForm(DialCase):

    def test_least_cuts_in_the_order_of_cuts(self):
        for facts, words, term, _ in some_pairs(1, 6):
            cuts = [cut for cut in walk_cuts(words, facts) if true_at(term, cut)]
            least = [cut for cut in cuts if not any(set(one) < set(cut) for one in cuts)]
            self.assertEqual(form(term, words, facts), least)
            self.assertTrue(least and all(least))

    def test_the_term_is_alike_to_the_term_of_its_form(self):
        for facts, words, term, _ in some_pairs(2, 4):
            self.assertIs(alike(term, form_term(form(term, words, facts)), facts), True)

    def test_one_form_exactly_if_one_value_in_each_order(self):
        met = {True: 0, False: 0}
        for facts, words, s, t in some_pairs(3, 8):
            same = form(s, words, facts) == form(t, words, facts)
            self.assertEqual(same, all(term_value(ranks, s) == term_value(ranks, t)
                                       for ranks in kept_orders(words, facts)))
            self.assertIs(alike(s, t, facts), same)
            met[same] += 1
        self.assertGreater(min(met.values()), 10)

    def test_its_own_words(self):
        term = word_term("y") | (word_term("x") & word_term("fx"))
        self.assertEqual(form(term), [["y"], ["x", "fx"]])
        self.assertEqual(form(term, None, Facts(("1", "f"))), [["y"], ["x", "fx"]])
        self.assertEqual(form(term, ["x", "fx", "y", "x"], Facts(("f", "1"))), [["y"], ["x", "fx"]])
        self.assertEqual(form(word_term("x"), facts=Facts(("1", "f"))), [["x"]])
        self.assertEqual(form(word_term("x"), ["x", "fx"], Facts(("1", "f"))), [["x", "fx"]])

    def test_errors_in_order(self):
        term = word_term("x") | word_term("fx")
        self.tells(BadWord("f"), form, term, ["f", "g"])
        self.tells(NotPaired("F"), form, word_term("x"), ["Fx"])
        self.tells(NotPaired("F"), form, word_term("Fx"), [])
        self.tells(BadGroups(""), form, term, [])
        self.tells(BadGroups(""), form, word_term("f" * 12 + "x"), ())
        self.tells(NotRanked("fx"), form, term, [*SEVEN[:5], "gx", "hx", "kx"])
        self.tells(NotRanked("x"), form, term, ["fx"])
        self.tells(NotRanked("fx"), form, word_term("fx"), ["x"])
        self.tells(TooLarge("words"), form, term, [*SEVEN, "z"])
        self.tells(TooLarge("words"), form, word_term("f" * 10 + "x"))
        self.assertEqual(len(form(word_term("f" * 9 + "x"))), 1)
        wide = word_term("x") | word_term("y")
        for one, other in [("fx", "fy"), ("gx", "gy"), ("hx", "hy")]:
            wide = wide & (word_term(one) | word_term(other))
        self.tells(TooLarge("words"), form, wide)

    def test_lists_are_new(self):
        words = ["x", "fx"]
        form(word_term("x"), words)[0].append("y")
        self.assertEqual((form(word_term("x"), words), words), ([["x"]], ["x", "fx"]))


class TestFormTerm(DialCase):

    def test_greatest_of_leasts(self):
        for cuts in [[["x"]], [["x", "y"], ["fx"]], [["fx", "x", "x"], ["x"], ["y", "gx"]]]:
            told = sorted(map(sorted, high_rows(form_term(cuts))))
            self.assertEqual(told, sorted(map(sorted, high_rows(term_of_rows(cuts)))))
        self.tells(BadWord("f"), form_term, [["x"], ["y", "f"], ["g"]])


class TestPartingCut(DialCase):

    def test_first_cut(self):
        for facts, _, s, t in some_pairs(4, 6):
            words = in_order(s.word_list() + t.word_list())
            cuts = [cut for cut in walk_cuts(words, facts) if true_at(s, cut) and not true_at(t, cut)]
            found = parting_cut(s, t, facts)
            self.assertEqual(found, cuts[0] if cuts else None)
            self.assertEqual(found is None, term_below(s, t, facts))

    def test_some(self):
        x, fx = word_term("x"), word_term("fx")
        self.assertEqual(parting_cut(x, fx), ["x"])
        self.assertIsNone(parting_cut(x, fx, Facts(("1", "f"))))
        self.assertEqual(parting_cut(fx, x, Facts(("1", "f"))), ["fx"])

    def test_errors_in_order(self):
        self.tells(NotPaired("F"), parting_cut, word_term("x"), word_term("Fx"))
        self.tells(TooLarge("words"), parting_cut, word_term("x"), word_term("f" * 10 + "x"))
        seven = term_of_rows([SEVEN])
        self.assertIsNotNone(parting_cut(word_term("x"), seven))
        self.tells(TooLarge("words"), parting_cut, seven, word_term("z"))


if __name__ == "__main__":
    unittest.main()
