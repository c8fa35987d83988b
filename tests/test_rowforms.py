"""High and low rows: point [13]."""

import random
import unittest

from helpers import DialCase, walk_worlds
from unseendials.errors import BadWord, TooLarge
from unseendials.facts import Facts
from unseendials.rowforms import high_rows, low_rows, term_of_rows
from unseendials.terms import Lesser, PairTerm, ThroughTerm, WordTerm, word_term
from unseendials.words import tails


def rows_from_description(term, high):
    """Find the rows as sets, straight from the description."""
    if isinstance(term, WordTerm):
        return {frozenset([term.word])}
    if isinstance(term, ThroughTerm):
        inner = rows_from_description(term.inner, high)
        return {frozenset(term.letter + word for word in row) for row in inner}
    left, right = [rows_from_description(part, high) for part in (term.left, term.right)]
    rows = {one | other for one in left for other in right} \
        if isinstance(term, Lesser) == high else left | right
    return {row for row in rows if not any(other < row for other in rows)}


def some_terms(many):
    """Return some terms of different kinds, always the same ones."""
    dice = random.Random(5)

    def grow(depth):
        if depth == 0 or dice.random() < 0.2:
            return word_term(dice.choice(tails("fgx") + tails("gfy") + ["fx", "ffy"]))
        kind = dice.randrange(4)
        if kind == 0:
            return ThroughTerm(dice.choice("fg"), grow(depth - 1))
        left, right = grow(depth - 1), grow(depth - 1)
        return left & right if kind < 3 else left | right

    return [grow(4) for _ in range(many)]


class TestRows(DialCase):

    def test_rows_of_small_terms(self):
        x, y, fx = [word_term(word) for word in ("x", "y", "fx")]
        self.assertEqual([high_rows(x), low_rows(x)], [[["x"]], [["x"]]])
        self.assertEqual([high_rows(x | y), low_rows(x | y)], [[["x"], ["y"]], [["x", "y"]]])
        self.assertEqual([high_rows(x & y), low_rows(x & y)], [[["x", "y"]], [["x"], ["y"]]])
        self.assertEqual(high_rows((y & fx | x & y) | fx), [["fx"], ["x", "y"]])
        self.assertEqual(high_rows(x | x & y), [["x"]])
        self.assertEqual(low_rows(x & (x | y)), [["x"]])
        self.assertEqual(high_rows(ThroughTerm("g", x | y & fx)), [["gx"], ["gy", "gfx"]])

    def test_rows_are_as_described_and_in_order(self):
        for term in some_terms(200):
            for rows, high in [(high_rows(term), True), (low_rows(term), False)]:
                self.assertEqual({frozenset(row) for row in rows},
                                 rows_from_description(term, high))
                keys = [(len(row), [(len(word), word) for word in row]) for row in rows]
                self.assertEqual(keys, sorted(keys))
                for row in rows:
                    self.assertEqual(row, sorted(set(row), key=lambda word: (len(word), word)))

    def test_values_by_rows(self):
        worlds = list(walk_worlds(Facts(), 3, "fg", "xy"))[::13]
        for term in some_terms(40):
            high, low = high_rows(term), low_rows(term)
            for world in worlds:
                value = term.value_in(world)
                self.assertEqual(value, max(min(map(world, row)) for row in high))
                self.assertEqual(value, min(max(map(world, row)) for row in low))

    def test_what_is_handed_out_is_new(self):
        term = word_term("x") | word_term("y")
        rows = high_rows(term)
        rows[0].append("z")
        rows.clear()
        self.assertEqual(high_rows(term), [["x"], ["y"]])


def one_of(words):
    return term_of_rows([[word] for word in words])


class TestBounds(DialCase):

    def test_sixty_four_rows_and_sixty_five(self):
        words = ["f" * (at // 6) + "uvwxyz"[at % 6] for at in range(65)]
        self.assertEqual(len(high_rows(one_of(words[:64]))), 64)
        self.tells(TooLarge("rows"), high_rows, one_of(words))
        self.assertEqual(low_rows(one_of(words)), [words])
        all_of = term_of_rows([words])
        self.assertEqual(high_rows(all_of), [words])
        self.tells(TooLarge("rows"), low_rows, all_of)

    def test_unions_are_counted_after_the_cutting(self):
        words = ["f" * (at // 6) + "uvwxyz"[at % 6] for at in range(18)]
        eight = one_of(words[:8])
        self.assertEqual(len(high_rows(eight & one_of(words[8:16]))), 64)
        self.assertEqual(len(high_rows(eight & eight)), 8)
        self.tells(TooLarge("rows"), high_rows, eight & one_of(words[8:17]))

    def test_terms_that_it_is_made_of_count(self):
        words = ["f" * (at // 6) + "uvwxyz"[at % 6] for at in range(65)]
        hidden = word_term("u") | (word_term("u") & one_of(words))
        self.tells(TooLarge("rows"), high_rows, hidden)
        self.tells(TooLarge("rows"), high_rows, word_term("u") & ThroughTerm("g", one_of(words)))
        self.assertEqual(low_rows(hidden), [["u"]])


class TestTermOfRows(DialCase):

    def test_joined_from_the_left_as_handed_in(self):
        rows = [["x", "fx", "x"], ("y",), ["y"]]
        self.assertEqual(term_of_rows(rows).written(), "((((x & fx) & x) | y) | y)")
        self.assertEqual(term_of_rows(tuple(rows), high=False).written(),
                         "((((x | fx) | x) & y) & y)")
        self.assertEqual(term_of_rows([["fx"]]).written(), "fx")
        self.assertIsInstance(term_of_rows(rows), PairTerm)

    def test_texts_that_are_no_words(self):
        self.tells(BadWord("f"), term_of_rows, [["x"], ["y", "f"], ["g"]])
        self.tells(BadWord("g"), term_of_rows, [["x", "g"], ["f"]], high=False)

    def test_rows_of_a_term_of_rows(self):
        for term in some_terms(60):
            self.assertEqual(high_rows(term_of_rows(high_rows(term))), high_rows(term))
            self.assertEqual(low_rows(term_of_rows(low_rows(term), high=False)), low_rows(term))


if __name__ == "__main__":
    unittest.main()
