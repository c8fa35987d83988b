"""Readings: points [121] to [124] and [128]."""

import random
import unittest

from agreeing import agreeing_tables, places_of, some_sketches, value_by
from brute import some_term
from helpers import DialCase, first_of
from unseendials.completions import greatest_world, least_world, stretch
from unseendials.errors import BadWord, NoPairs, NoPlace, NotPaired, TooLarge
from unseendials.facts import Facts
from unseendials.readings import greatest_value, least_value, shown_steps, walk_rows
from unseendials.sketches import Sketch
from unseendials.terms import Lesser, WordTerm, word_term
from unseendials.words import dials_of, tail_set
from unseendials.worlds import World


def words_for(facts):
    if "b" in facts.paired:
        return ["x", "y", "ax", "Ax", "by", "Bax", "abx", "ABy"]
    if "a" in facts.paired:
        return ["x", "y", "ax", "Ax", "Ay", "fAx", "aAy", "Afx", "aafx", "fay"]
    return ["x", "y", "fx", "gy", "fgx", "gfy", "ffx", "fgfx", "ggfy"]


def term_by(tables, places, term):
    if isinstance(term, WordTerm):
        return value_by(tables, places, term.word)
    sides = [term_by(tables, places, side) for side in (term.left, term.right)]
    return min(sides) if isinstance(term, Lesser) else max(sides)


def rows_by(sketch, words):
    """Return the rows of the words as lists of steps, straight from the agreeing worlds."""
    tails, places = tail_set(words), places_of(sketch)
    return sorted({tuple(value_by(tables, places, word) for word in tails)
                   for tables in agreeing_tables(sketch, dials_of(words))})


class TestRows(DialCase):

    def test_exactly_the_values_of_agreeing_worlds(self):
        luck, spread = random.Random(1), 0
        for sketch in some_sketches(700, 12):
            words = luck.sample(words_for(sketch.facts), luck.randint(1, 3))
            rows = list(walk_rows(words, sketch))
            self.assertEqual([tuple(row.values()) for row in rows], rows_by(sketch, words))
            for row in rows:
                self.assertEqual(list(row), tail_set(words))
            for word in words:
                found = sorted({row[word] for row in rows})
                self.assertEqual(shown_steps(word, sketch), found)
            spread += len(rows) > 3
        self.assertGreater(spread, 25)

    def test_the_sketch_of_a_row(self):
        luck = random.Random(2)
        for sketch in some_sketches(710, 4):
            words = luck.sample(words_for(sketch.facts), 2)
            places, dials = places_of(sketch), dials_of(words)
            for row in walk_rows(words, sketch):
                longer = sketch.twin()
                for word, step in row.items():
                    if len(word) > 1:
                        longer.read(word[0], row[word[1:]], step)
                kept = [tables for tables in agreeing_tables(sketch, dials)
                        if all(value_by(tables, places, word) == step for word, step in row.items())]
                self.assertEqual(kept, agreeing_tables(longer, dials))

    def test_word_by_word(self):
        for sketch in some_sketches(720, 4):
            for letter in ("f", "a", "A"):
                if letter != "f" and not sketch.facts.has_pair(letter):
                    continue
                low, high = stretch(sketch, letter, sketch.place_of("x"))
                self.assertEqual(shown_steps(letter + "x", sketch), list(range(low, high + 1)))

    def test_each_further_reading(self):
        luck = random.Random(3)
        for sketch in some_sketches(730, 4):
            words = luck.sample(words_for(sketch.facts), 2)
            letter = luck.choice(["f", "a", "A"] if "a" in sketch.facts.paired else ["f", "g"])
            at = luck.randrange(sketch.steps)
            low, high = stretch(sketch, letter, at)
            longer = sketch.twin()
            longer.read(letter, at, luck.randint(low, high))
            rows, fewer = (list(walk_rows(words, one)) for one in (sketch, longer))
            self.assertTrue(all(row in rows for row in fewer))
            for word in words:
                self.assertLessEqual(set(shown_steps(word, longer)), set(shown_steps(word, sketch)))
            words = [word for word in words if word == word.lower()]
            for term in [word_term(word) for word in words]:
                self.assertLessEqual(least_value(term, sketch), least_value(term, longer))
                self.assertGreaterEqual(greatest_value(term, sketch), greatest_value(term, longer))

    def test_example_with_a_gap(self):
        sketch = Sketch(4, places={"x": 1})
        for entry in [("g", 0, 1), ("g", 2, 2), ("f", 1, 1), ("f", 2, 3)]:
            sketch.read(*entry)
        self.assertEqual(shown_steps("fgx", sketch), [1, 3])
        self.assertEqual(list(walk_rows(["fgx"], sketch)),
                         [{"x": 1, "gx": 1, "fgx": 1}, {"x": 1, "gx": 2, "fgx": 3}])

    def test_no_words_and_points_alone(self):
        sketch = Sketch(3, places={"x": 2})
        self.assertEqual(list(walk_rows([], sketch)), [{}])
        self.assertEqual(list(walk_rows(["x"], sketch)), [{"x": 2}])
        self.assertEqual(shown_steps("x", sketch), [2])

    def test_rows_are_new_and_the_sketch_is_copied(self):
        sketch = Sketch(2, places={"x": 0})
        walk = walk_rows(["fx"], sketch)
        first = next(walk)
        first["x"] = 7
        sketch.read("f", 0, 0)
        self.assertEqual(list(walk), [{"x": 0, "fx": 1}])
        walk = walk_rows(["fx"], sketch)
        self.assertEqual(list(walk), [{"x": 0, "fx": 0}])

    def test_twenty_four_tails_and_twenty_five(self):
        sketch = Sketch(1, places={"x": 0, "y": 0})
        words = [letter + "x" for letter in "abcdefghijklmnopqrst"] + ["aax", "abx", "acx"]
        self.assertEqual(len(tail_set(words)), 24)
        self.assertEqual(list(walk_rows(words, sketch)), [dict.fromkeys(tail_set(words), 0)])
        self.tells(TooLarge("words"), first_of, walk_rows, [*words, "y"], sketch)
        self.tells(TooLarge("words"), shown_steps, "f" * 24 + "x", sketch)
        self.assertEqual(shown_steps("f" * 23 + "x", sketch), [0])

    def test_five_thousand_rows_and_one_more(self):
        sketch = Sketch(50, places={"x": 5, "y": 7})
        sketch.read("h", 0, 48)
        self.assertEqual(len(list(walk_rows(["fx", "gy", "hx"], sketch))), 50 * 50 * 2)
        sketch = Sketch(50, places={"x": 5, "y": 7})
        sketch.read("g", 0, 16)
        self.assertEqual(len(list(walk_rows(["gfx"], sketch))), 1 + 49 * 34)
        sketch.read("h", 0, 47)
        self.tells(TooLarge("rows"), first_of, walk_rows, ["gfx", "hy"], sketch)
        sketch.read("h", 1, 48)
        self.assertEqual(len(list(walk_rows(["gfx", "hy"], sketch))), 2 * 1667)
        self.assertEqual(shown_steps("gfhy", sketch), list(range(16, 50)))
        self.tells(TooLarge("rows"), shown_steps, "gfky", sketch)

    def test_errors_in_order(self):
        sketch = Sketch(60, Facts(paired="a"), places={"x": 30, "y": 0})
        many = [letter + "x" for letter in "bcdefghijklmnopqrst"] + ["bbx", "bcx", "bdx", "bex", "z", "u"]
        self.tells(BadWord("xx"), first_of, walk_rows, ["Fx", "xx"], sketch)
        self.tells(NotPaired("F"), first_of, walk_rows, [*many, "Fx"], sketch)
        self.tells(TooLarge("words"), first_of, walk_rows, many, sketch)
        self.tells(NoPlace("u"), first_of, walk_rows, many[:19] + ["z", "u"], sketch)
        self.tells(NoPlace("z"), first_of, walk_rows, ["fx", "gx", "hz", "kx"], sketch)
        self.tells(TooLarge("rows"), first_of, walk_rows, ["fx", "gx", "hx"], sketch)
        self.tells(BadWord("f"), shown_steps, "f", sketch)
        self.tells(NotPaired("F"), shown_steps, "Fz", sketch)
        self.tells(NoPlace("z"), shown_steps, "z", sketch)


class TestLeastAndGreatest(DialCase):

    def test_over_all_agreeing_worlds(self):
        luck = random.Random(4)
        for sketch in some_sketches(740, 8):
            words = [word for word in words_for(sketch.facts) if word == word.lower()]
            term = some_term(luck, words, luck.randint(1, 4))
            places = places_of(sketch)
            values = [term_by(tables, places, term)
                      for tables in agreeing_tables(sketch, dials_of(term.word_list()))]
            self.assertEqual((least_value(term, sketch), greatest_value(term, sketch)),
                             (min(values), max(values)))

    def test_letters_in_front(self):
        sketch = Sketch(4, places={"x": 1, "y": 2})
        sketch.read("f", 1, 2)
        sketch.read("g", 2, 1)
        term = (word_term("x") | word_term("gy")).through("f")
        self.assertEqual((least_value(term, sketch), greatest_value(term, sketch)), (2, 2))
        self.assertEqual(greatest_value(word_term("fgx"), sketch), 2)
        self.assertEqual(least_value(word_term("fgx"), sketch), 0)

    def test_a_back_dial_spoils_it(self):
        sketch = Sketch(2, Facts(paired="a"))
        self.assertEqual([least_world(sketch).table_of("A")[0], greatest_world(sketch).table_of("A")[0]],
                         [1, 0])

    def test_errors_in_order(self):
        sketch = Sketch(3, Facts(paired="ab"), places={"x": 1})
        for call in (least_value, greatest_value):
            self.tells(NotPaired("F"), call, word_term("z") & word_term("AFx"), sketch)
            self.tells(NoPairs("A"), call, word_term("fBy") | word_term("Ax"), sketch)
            self.tells(NoPairs("B"), call, word_term("ABz"), sketch)
            self.tells(NoPlace("u"), call, word_term("z") & word_term("ffu"), sketch)
            self.assertEqual(call(word_term("x"), sketch), 1)


class TestAgreeing(DialCase):

    def test_there_always_is_one(self):
        for sketch in some_sketches(750, 3):
            self.assertGreater(len(agreeing_tables(sketch, "f")), 0)
            world = least_world(sketch, ["f"])
            self.assertIsInstance(world, World)
            self.assertIn({dial: world.table_of(dial) for dial in world.dial_list()},
                          [{dial: list(table) for dial, table in tables.items()}
                           for tables in agreeing_tables(sketch, "f")])


if __name__ == "__main__":
    unittest.main()
