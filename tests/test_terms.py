"""Terms: points [10] and [11]."""

import itertools
import unittest

from helpers import DialCase, walk_worlds
from unseendials.errors import BadLetter, BadWord, NoPlace, NotMade, NoTable
from unseendials.facts import Facts
from unseendials.terms import (Greater, Lesser, PairTerm, Term, ThroughTerm, WordTerm, word_term)
from unseendials.worlds import World


def joined():
    return (word_term("x") | word_term("gx")).through("f") & word_term("y")


def made_terms():
    x, fx, gx = [word_term(word) for word in ("x", "fx", "fgx")]
    return [x, fx, x & fx, fx | gx, ThroughTerm("g", x | gx), (x | fx) & ThroughTerm("f", fx & gx)]


class TestMaking(DialCase):

    def test_classes(self):
        x, y = word_term("x"), word_term("y")
        self.assertEqual([type(x), x.word], [WordTerm, "x"])
        self.assertEqual([type(x & y), type(x | y)], [Lesser, Greater])
        self.assertTrue(issubclass(Lesser, PairTerm) and issubclass(Greater, PairTerm))
        for kind in (WordTerm, ThroughTerm, PairTerm):
            self.assertTrue(issubclass(kind, Term))
        self.assertTrue((x & y).left == x and (x & y).right == y)
        self.assertTrue(Greater(x, y).left == x and Greater(x, y).right == y)
        through = ThroughTerm("F", x & y)
        self.assertEqual([through.letter, through.inner.written()], ["F", "(x & y)"])

    def test_written_forms(self):
        x, y = word_term("x"), word_term("fy")
        self.assertEqual([(x & y).written(), (x | y).written()], ["(x & fy)", "(x | fy)"])
        self.assertEqual(joined().written(), "(f(x | gx) & y)")
        self.assertEqual(ThroughTerm("A", x).written(), "Ax")
        self.assertEqual((x & y & x | y).written(), "(((x & fy) & x) | fy)")

    def test_lists(self):
        self.assertEqual(joined().word_list(), ["y", "fx", "fgx"])
        self.assertEqual(joined().point_list(), ["x", "y"])
        twice = word_term("fx") & word_term("x") & word_term("fx")
        self.assertEqual([twice.word_list(), twice.point_list()], [["x", "fx"], ["x"]])
        twice.word_list().append("y")
        self.assertEqual(twice.word_list(), ["x", "fx"])

    def test_equal(self):
        x, y = word_term("x"), word_term("y")
        self.assertTrue(x & y == Lesser(x, y))
        self.assertFalse(x & y != Lesser(x, y))
        self.assertTrue(ThroughTerm("f", x) == word_term("fx"))
        self.assertTrue(x & y != y & x)
        self.assertFalse(x & y == x | y)
        self.assertTrue(x != "x")

    def test_errors(self):
        self.tells(BadWord("f"), word_term, "f")
        self.tells(BadWord(""), WordTerm, "")
        for letter in ["x", "1", "", "fg"]:
            self.tells(BadLetter(letter), ThroughTerm, letter, word_term("f" * 39 + "x"))

    def test_many_words(self):
        term = word_term("x")
        for at in range(199):
            term = term | word_term("f" * (at // 10) + "y")
        self.assertEqual(len(term.word_list()), 21)
        self.assertEqual(term.through("g").written().count("|"), 199)
        self.assertEqual(term.value_in(World(2, {"x": 0, "y": 1}, {"f": [0, 0]})), 1)


class TestThrough(DialCase):

    def test_letters_in_front(self):
        fronted = word_term("x").through("fgA")
        self.assertEqual([type(fronted), fronted.word], [WordTerm, "fgAx"])
        pair = (word_term("x") & word_term("y")).through("fg")
        self.assertEqual([type(pair), pair.letter, type(pair.inner), pair.inner.letter],
                         [ThroughTerm, "f", ThroughTerm, "g"])
        self.assertEqual(pair.written(), "fg(x & y)")
        self.assertEqual(type(ThroughTerm("f", word_term("x")).through("g")), ThroughTerm)

    def test_the_empty_head(self):
        for term in made_terms() + [joined()]:
            same = term.through("")
            self.assertTrue(same == term)
            self.assertIs(type(same), type(term))
            self.assertIsNot(same, term)

    def test_errors(self):
        self.tells(BadLetter("x"), joined().through, "fx1")
        self.tells(BadLetter("1"), word_term("f" * 39 + "x").through, "f1")
        longs = word_term("g" * 38 + "x") | word_term("f" * 38 + "x") | word_term("f" * 39 + "y")
        self.tells(BadWord("h" + "f" * 39 + "y"), longs.through, "h")
        self.tells(BadWord("hh" + "f" * 38 + "x"), longs.through, "hh")
        self.tells(BadWord("h" + "f" * 39 + "y"), ThroughTerm, "h", longs)
        self.assertEqual(word_term("x").through("f" * 39).word, "f" * 39 + "x")


class TestValues(DialCase):

    def test_values(self):
        for world in walk_worlds(Facts(), 3, "fg", "xy"):
            self.assertEqual(joined().value_in(world),
                             min(world("y"), max(world("fx"), world("fgx"))))

    def test_carrying_in_changes_no_value(self):
        through = ThroughTerm("A", ThroughTerm("f", word_term("x") & word_term("ay")))
        carried = word_term("Afx") & word_term("Afay")
        self.assertEqual(through.word_list(), carried.word_list())
        for world in walk_worlds(Facts(paired="a"), 3, "f", "xy"):
            self.assertEqual(through.value_in(world), carried.value_in(world))

    def test_the_first_word_without_a_value(self):
        world = World(2, {"x": 0}, {"f": [0, 1]})
        self.tells(NoPlace("y"), joined().value_in,
                   World(2, {"x": 0}, {"f": [0, 1], "g": [0, 1]}))
        self.tells(NoTable("g"), joined().value_in, world)
        self.tells(NoPlace("x"), joined().value_in, World(2, {}, {}))
        # The word hx is asked for ahead of the word hy, so its letter is told first.
        self.tells(NoTable("h"), ThroughTerm("h", word_term("x") & word_term("y")).value_in, world)


class TestPutting(DialCase):

    def test_words_of_what_is_put(self):
        s = word_term("fx") & word_term("x")
        t = word_term("gy") | word_term("z")
        self.assertEqual(s(t).written(), "(f(gy | z) & (gy | z))")
        self.assertEqual([type(word_term("fgx")(word_term("hy"))), word_term("fgx")(t).written()],
                         [WordTerm, "fg(gy | z)"])
        self.assertEqual(type(ThroughTerm("f", word_term("x"))(word_term("y"))), WordTerm)
        self.assertEqual(ThroughTerm("f", s)(word_term("y")).written(), "f(fy & y)")

    def test_a_point_gives_the_term_itself(self):
        t = word_term("gy") | word_term("z")
        self.assertTrue(word_term("x")(t) == t)
        self.assertIsNot(word_term("x")(t), t)

    def test_values_of_what_is_put(self):
        inner = word_term("y") & word_term("gz")
        for world in list(walk_worlds(Facts(), 3, "fg", "yz"))[::5]:
            moved = world.moved(x=inner.value_in(world))
            for s in made_terms():
                self.assertEqual(s(inner).value_in(world), s.value_in(moved))

    def test_putting_and_joining(self):
        t, q = word_term("y"), word_term("fz")
        for world in list(walk_worlds(Facts(), 3, "fg", "xyz"))[::37]:
            for s, r in itertools.product(made_terms(), repeat=2):
                for both, one, other in [((s & r)(t), s(t), r(t)), (s(t & q), s(t), s(q))]:
                    self.assertEqual(both.value_in(world), (one & other).value_in(world))
                for both, one, other in [((s | r)(t), s(t), r(t)), (s(t | q), s(t), s(q))]:
                    self.assertEqual(both.value_in(world), (one | other).value_in(world))
                self.assertEqual(s(r(t)).value_in(world), s(r)(t).value_in(world))

    def test_terms_that_are_not_made(self):
        t = word_term("f" * 39 + "x")
        self.tells(NotMade(("x", "y")), word_term("fy") & word_term("x"), t)
        self.tells(NotMade(("u", "x", "z")),
                   ThroughTerm("f", word_term("x") | word_term("z")) & word_term("u"), t)

    def test_words_that_get_too_long(self):
        s = word_term("hx") | word_term("fgx") | word_term("gx")
        t = word_term("f" * 39 + "y") & word_term("x")
        self.tells(BadWord("fg" + "f" * 38 + "x"), word_term("fgx"),
                   word_term("f" * 38 + "x") & word_term("y"))
        self.tells(BadWord("g" + "f" * 39 + "y"), s, t)
        # The words are put together in another order than word order.
        self.tells(BadWord("fg" + "f" * 38 + "y"), word_term("hx") | word_term("fgx"),
                   word_term("f" * 38 + "y") | word_term("f" * 39 + "y"))
        self.assertEqual(word_term("f" * 20 + "x")(word_term("g" * 19 + "y")).word,
                         "f" * 20 + "g" * 19 + "y")


if __name__ == "__main__":
    unittest.main()
