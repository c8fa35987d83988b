"""Thin rows: point [70]."""

import random
import unittest

from brute import PAIRED_WORDS, PLAIN_WORDS, kept_orders, some_term
from helpers import SOME_FACTS, DialCase
from unseendials.errors import NotPaired, TooLarge
from unseendials.facts import Facts
from unseendials.rowforms import high_rows, term_of_rows
from unseendials.sureness import alike
from unseendials.terms import word_term
from unseendials.thinning import thin_rows


def value_of(ranks, rows):
    return max(min(ranks[word] for word in row) for row in rows)


def thin_by_hand(term, facts):
    """Go through the rounds as DOC.md tells them, with the values in all orders."""
    rows = high_rows(term)
    orders = kept_orders(term.word_list(), facts)
    values = [value_of(ranks, rows) for ranks in orders]

    def same(others):
        return [value_of(ranks, others) for ranks in orders] == values

    while True:
        shorter = [rows[:at] + rows[at + 1:] for at in range(len(rows)) if len(rows) > 1]
        shorter += [rows[:at] + [[one for one in row if one != word]] + rows[at + 1:]
                    for at, row in enumerate(rows) if len(row) > 1 for word in row]
        found = [others for others in shorter if same(others)]
        if not found:
            return rows
        rows = found[0]


class TestThinRows(DialCase):

    def test_rounds(self):
        luck, changed = random.Random(8), 0
        for facts in SOME_FACTS:
            words = [word for word in (PAIRED_WORDS if facts.paired else PLAIN_WORDS) if len(word) < 4]
            for _ in range(10):
                term = some_term(luck, luck.sample(words, 3), luck.randint(2, 6))
                told = thin_by_hand(term, facts) if len(term.word_list()) < 6 else None
                rows = thin_rows(term, facts)
                self.assertEqual(rows, told)
                self.assertIs(alike(term, term_of_rows(rows), facts), True)
                changed += rows != high_rows(term)
        self.assertGreater(changed, 20)

    def test_some(self):
        x, y, fx, gx = map(word_term, ["x", "y", "fx", "gx"])
        up = Facts(("1", "f"))
        self.assertEqual(thin_rows(y | (x & fx), up), [["y"], ["x"]])
        self.assertEqual(thin_rows(y | (x & fx)), [["y"], ["x", "fx"]])
        self.assertEqual(thin_rows(x | fx, up), [["fx"]])
        self.assertEqual(thin_rows(x | fx, Facts(("f", "1"))), [["x"]])
        self.assertEqual(thin_rows((x & y) | (fx & y), up), [["y", "fx"]])
        self.assertEqual(thin_rows(x & fx & gx, Facts(("f", "g"), ("g", "f"))), [["x", "gx"]])
        self.assertEqual(thin_rows(fx | gx, Facts(("f", "g"), ("g", "f"))), [["gx"]])
        self.assertEqual(thin_rows(word_term("aAax") | word_term("ax"), Facts(paired="a")), [["aAax"]])
        self.assertEqual(thin_rows(x), [["x"]])

    def test_rows_and_words_that_are_level(self):
        level = Facts(("1", "f"), ("f", "1"))
        x, y, fx = map(word_term, ["x", "y", "fx"])
        self.assertEqual(thin_rows((x & y) | (fx & y), level), [["y", "fx"]])
        self.assertEqual(thin_rows(x & fx & y, level), [["y", "fx"]])

    def test_sixteen_tails_and_many_rows(self):
        words = [letter + "x" for letter in "abcdefghijkl"]
        wide = word_term("ax") | word_term("bx")
        for one, other in zip(words[2::2], words[3::2]):
            wide = wide & (word_term(one) | word_term(other))
        self.assertEqual(len(high_rows(wide)), 64)
        self.assertEqual(thin_rows(wide), high_rows(wide))
        all_below = Facts(*[("a", letter) for letter in "cdefghijkl"])
        self.assertEqual(len(thin_rows(wide, all_below)), 33)

    def test_errors(self):
        words = [letter + "x" for letter in "abcdefghijklmno"]
        self.assertEqual(thin_rows(term_of_rows([words])), [words])
        self.tells(TooLarge("words"), thin_rows, term_of_rows([words, ["y"]]))
        self.tells(NotPaired("A"), thin_rows, word_term("fAx"))
        wide = word_term("ax") | word_term("ay")
        for letter in "bcdefg":
            wide = wide & (word_term(letter + "x") | word_term(letter + "y"))
        self.tells(TooLarge("rows"), thin_rows, wide)
        low = word_term("ax") & word_term("ay")
        for letter in "bcdefg":
            low = low | (word_term(letter + "x") & word_term(letter + "y"))
        self.tells(TooLarge("rows"), thin_rows, low)

    def test_lists_are_new(self):
        thin_rows(word_term("x"))[0].clear()
        self.assertEqual(thin_rows(word_term("x")), [["x"]])


if __name__ == "__main__":
    unittest.main()
