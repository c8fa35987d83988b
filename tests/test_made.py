"""Tables of made terms and replaced worlds: points [12] and [14]."""

import itertools
import unittest

from helpers import DialCase, walk_worlds
from unseendials.errors import BadLetter, NotMade, NoTable
from unseendials.facts import Facts
from unseendials.made import made_table, replaced_world
from unseendials.tables import put_on, rising
from unseendials.terms import ThroughTerm, word_term
from unseendials.words import replace_dials
from unseendials.worlds import World

MADE = [word_term("x"), word_term("fAx"), word_term("fx") & word_term("ax"),
        ThroughTerm("a", word_term("x") | word_term("fx")) & word_term("x")]


class TestMadeTables(DialCase):

    def test_values_at_each_step(self):
        for world in walk_worlds(Facts(paired="a"), 3, "f"):
            for term in MADE:
                table = made_table(term, world)
                self.assertEqual(table, [term.value_in(world.placed({"x": at}))
                                         for at in range(3)])
                self.assertTrue(rising(table))

    def test_tables_of_terms_put_on_terms(self):
        for world in walk_worlds(Facts(paired="a"), 3, "f"):
            for s, t in itertools.product(MADE, repeat=2):
                self.assertEqual(made_table(s(t), world),
                                 put_on(made_table(s, world), made_table(t, world)))

    def test_errors(self):
        world = World(2, {"x": 0, "y": 1}, {"f": [0, 1]})
        self.tells(NotMade(("x", "y")), made_table, word_term("gx") & word_term("y"), world)
        self.tells(NoTable("h"), made_table, word_term("fx") & word_term("ghx") & word_term("kx"),
                   world)
        self.tells(NoTable("F"), made_table, word_term("gFx"), world)
        self.assertEqual(made_table(word_term("fz"), world), [0, 1])


class TestReplacedWorlds(DialCase):

    def test_values_of_words(self):
        heads = {"f": "gAg", "g": "", "h": "ff"}
        for world in list(walk_worlds(Facts(("f", "g"), paired="a"), 3, "fg", "x"))[::3]:
            replaced = replaced_world(world, heads)
            for word in ["x", "fx", "gfx", "faAgx", "hx", "ghx"]:
                self.assertEqual(replaced(word), world(replace_dials(word, heads)))

    def test_what_it_is_made_of(self):
        world = World(3, {"x": 1}, {"f": [1, 1, 2], "g": [1, 2, 2], "a": [0, 0, 1]},
                      Facts(("f", "g"), ("1", "g"), ("a", "1"), paired="a"))
        replaced = replaced_world(world, {"g": "f", "k": "Aa"})
        self.assertTrue(replaced.facts == Facts(paired="a"))
        self.assertEqual([replaced.steps, replaced.place_of("x")], [3, 1])
        self.assertEqual(replaced.dial_list(), ["a", "f", "g", "k"])
        self.assertEqual([replaced.table_of(dial) for dial in "afgk"],
                         [[0, 0, 1], [1, 1, 2], [1, 1, 2], world.head_table("Aa")])
        self.assertEqual(world.table_of("g"), [1, 2, 2])
        self.assertEqual(len(replaced_world(world, {}).facts), 0)

    def test_errors(self):
        world = World(2, {}, {"f": [0, 1]})
        self.tells(BadLetter("F"), replaced_world, world, {"g": "h", "F": "f", "x": ""})
        self.tells(BadLetter("g"), replaced_world, world, {"f": "h", "g": "x"})
        self.tells(NoTable("k"), replaced_world, world, {"f": "f", "g": "hkf", "h": "l"})


if __name__ == "__main__":
    unittest.main()
