"""Worlds: points [7], [8] and [9]."""

import itertools
import unittest

from helpers import DialCase, back_of, keeps_facts, rising_tables, walk_worlds
from unseendials.errors import (BadPlace, BadSteps, BadTable, BadWord, BrokenFact, NoPlace,
                                NotGrounded, NoTable, Unlike)
from unseendials.facts import Facts
from unseendials.words import heads, tails
from unseendials.worlds import World


def small_world(facts=None):
    return World(4, {"x": 1, "y": 3}, {"f": [0, 0, 2, 3], "a": [0, 1, 1, 3]},
                 Facts(paired="a") if facts is None else facts)


class TestMaking(DialCase):

    def test_steps(self):
        for steps in [0, 61, -1, 10 ** 17]:
            self.tells(BadSteps(steps), World, steps, {"a": 9}, {"x": 1}, Facts(("f", "g")))
        self.assertEqual(World.MOST, 60)
        self.assertEqual(World(1, {"x": 0}, {"f": [0]})("fx"), 0)
        self.assertEqual(World(60, {"x": 59}, {"f": list(range(60))})("fx"), 59)

    def test_places(self):
        self.tells(BadPlace("y", 3), World, 3, {"x": 0, "y": 3, "a": 0}, {"x": 1})
        self.tells(BadPlace("a", 0), World, 3, {"x": 0, "a": 0, "y": 3}, {})
        self.tells(BadPlace("x", -1), World, 3, {"x": -1}, {})
        self.tells(BadPlace("", 0), World, 3, {"": 0}, {})
        self.tells(BadPlace("xy", 0), World, 3, {"xy": 0}, {})

    def test_tables(self):
        good = [0, 1, 2]
        for dial in ["A", "x", "1", "", "ab"]:
            self.tells(BadTable(dial), World, 3, {}, {"f": good, dial: good, "g": [0]})
        for table in [[0, 1], [0, 1, 2, 3], [], [0, 2, 1], [0, 1, 3], [-1, 0, 0]]:
            self.tells(BadTable("f"), World, 3, {}, {"f": table, "A": good}, Facts(("g", "1")))

    def test_dials_of_the_facts_need_tables(self):
        facts = Facts(("k", "1"), ("c", "c"), paired="b")
        still = [0, 1]
        self.tells(NoTable("b"), World, 2, {}, {"k": [1, 1]}, facts)
        self.tells(NoTable("c"), World, 2, {}, {"k": [1, 1], "b": [1, 1]}, facts)
        self.tells(BrokenFact("k", "1", 0), World, 2, {}, {"k": [1, 1], "b": [1, 1], "c": still},
                   facts)
        self.tells(NotGrounded("b"), World, 2, {}, {"k": still, "b": [1, 1], "c": still}, facts)

    def test_broken_facts(self):
        facts = Facts(("f", "g"), ("1", "f"))
        self.tells(BrokenFact("f", "g", 1), World, 3, {}, {"f": [0, 2, 2], "g": [0, 1, 1]}, facts)
        self.tells(BrokenFact("1", "f", 2), World, 3, {}, {"f": [0, 1, 1], "g": [0, 1, 1]}, facts)
        self.tells(BrokenFact("a", "b", 1), World, 3, {}, {"a": [0, 1, 1], "b": [0, 0, 2]},
                   Facts(("a", "b")))

    def test_paired_dials_are_grounded(self):
        self.tells(NotGrounded("a"), World, 2, {}, {"b": [1, 1], "a": [1, 1]}, Facts(paired="ba"))
        self.tells(NotGrounded("b"), World, 2, {}, {"b": [1, 1], "a": [0, 1]}, Facts(paired="ba"))
        self.assertEqual(World(2, {}, {"a": [1, 1]}).table_of("a"), [1, 1])

    def test_just_the_tables_that_keep_the_facts(self):
        for facts in [Facts(("f", "g")), Facts(("g", "1"), ("1", "f")), Facts(paired="f")]:
            for tables in itertools.product(rising_tables(3), repeat=2):
                made = dict(zip("fg", tables))
                try:
                    World(3, {}, made, facts)
                    kept = True
                except (BrokenFact, NotGrounded):
                    kept = False
                self.assertEqual(kept, keeps_facts(made, facts, 3))

    def test_tuples_do_equally_well(self):
        one = World(2, {"x": 1}, {"f": (0, 1)})
        self.assertTrue(one == World(2, {"x": 1}, {"f": [0, 1]}))
        self.assertEqual(one.table_of("f"), [0, 1])

    def test_copies_in_and_out(self):
        places, tables = {"x": 1}, {"f": [0, 0, 1]}
        world = World(3, places, tables)
        places["x"] = 2
        places["y"] = 0
        tables["f"][0] = 2
        tables["g"] = [0, 0, 0]
        for handed_out in [world.table_of("f"), world.head_table(""), world.head_table("f"),
                           world.table_of("1"), world.point_list(), world.dial_list()]:
            handed_out[0] = 7
        self.assertEqual([world.place_of("x"), world.point_list()], [1, ["x"]])
        self.assertEqual([world.table_of("f"), world.dial_list()], [[0, 0, 1], ["f"]])
        self.assertEqual([world.table_of("1"), world.head_table("f")], [[0, 1, 2], [0, 0, 1]])
        backed = small_world()
        backed.table_of("A")[0] = 3
        self.assertEqual(backed.table_of("A"), [0, 2, 2, 3])

    def test_still_worlds(self):
        world = World.still(3, {"x": 2}, "g", "f", "g", facts=Facts(("k", "1"), paired="a"))
        self.assertEqual(world.dial_list(), ["a", "f", "g", "k"])
        self.assertEqual({tuple(world.table_of(dial)) for dial in "afgkA1"}, {(0, 1, 2)})
        self.assertEqual(World.still(1, {}).dial_list(), [])
        self.tells(BadSteps(10 ** 17), World.still, 10 ** 17, {"a": 1}, "A")
        self.tells(BadSteps(0), World.still, 0, {}, "A")
        self.tells(BadPlace("x", 2), World.still, 2, {"x": 2}, "A")
        self.tells(BadTable("A"), World.still, 2, {}, "f", "A", "B")


class TestAsking(DialCase):

    def test_what_it_is_made_of(self):
        world = small_world()
        self.assertEqual([world.steps, world.facts.paired], [4, "a"])
        self.assertTrue(world.facts == Facts(paired="a"))
        self.assertTrue(World(2, {}, {}).facts == Facts())
        self.assertEqual([world.point_list(), world.dial_list()], [["x", "y"], ["a", "f"]])
        self.assertEqual([world.place_of("x"), world.place_of("y")], [1, 3])
        self.tells(NoPlace("z"), world.place_of, "z")
        self.tells(NoPlace("f"), world.place_of, "f")

    def test_tables_of_letters(self):
        world = small_world()
        self.assertEqual(world.table_of("f"), [0, 0, 2, 3])
        self.assertEqual(world.table_of("A"), back_of([0, 1, 1, 3]))
        self.assertEqual(world.table_of("1"), [0, 1, 2, 3])
        for letter in ["F", "g", "x", "", "aA", "2"]:
            self.tells(NoTable(letter), world.table_of, letter)

    def test_tables_of_heads(self):
        world = small_world()
        self.assertEqual(world.head_table(""), [0, 1, 2, 3])
        self.assertEqual(world.head_table("fa"), [0, 0, 0, 3])
        self.assertEqual(world.head_table("fA"), [0, 2, 2, 3])
        self.tells(NoTable("h"), world.head_table, "gah")
        self.tells(NoTable("F"), world.head_table, "gFaf")
        for head in ["", "f", "af", "Aaf", "fAfa"]:
            table = world.head_table(head)
            for at in range(4):
                self.assertEqual(table[at], world.placed({"x": at})(head + "x"))

    def test_values(self):
        world = small_world()
        told = [world(word) for word in ["x", "y", "fx", "ax", "Ax", "fAx", "aAx", "ffy"]]
        self.assertEqual(told, [1, 3, 0, 1, 2, 2, 1, 3])

    def test_values_of_the_tails_are_the_steps_met_on_the_way(self):
        for world in walk_worlds(Facts(paired="a"), 3, "f", "x"):
            for word in ["fAfx", "aaAx"]:
                for head, tail in zip(heads(word)[1:], tails(word)[1:]):
                    table = world.table_of(head[-1])
                    self.assertEqual(world(head[-1] + tail), table[world(tail)])

    def test_words_without_a_value(self):
        world = small_world()
        self.tells(BadWord("f"), world, "f")
        self.tells(BadWord("gz1"), world, "gz1")
        self.tells(NoPlace("z"), world, "gz")
        self.tells(NoTable("h"), world, "gfhax")
        self.tells(NoTable("F"), world, "gFx")


class TestMoving(DialCase):

    def test_placed(self):
        world = small_world()
        other = world.placed({"z": 2})
        self.assertEqual([other.point_list(), other("fz"), world.point_list()],
                         [["z"], 2, ["x", "y"]])
        self.assertEqual(world.placed({}).point_list(), [])
        self.tells(BadPlace("y", 4), world.placed, {"x": 1, "y": 4, "a": 1})

    def test_moved(self):
        world = small_world()
        other = world.moved(z=2, x=0)
        self.assertEqual([other.place_of(point) for point in "xyz"], [0, 3, 2])
        self.assertEqual([world.place_of("x"), world.point_list()], [1, ["x", "y"]])
        self.assertTrue(world.moved() == world)
        self.tells(BadPlace("y", 4), world.moved, z=1, y=4, x=-1)
        self.tells(BadPlace("f", 1), world.moved, f=1, x=9)

    def test_what_is_handed_in_is_copied(self):
        places = {"x": 0}
        other = small_world().placed(places)
        places["x"] = 3
        self.assertEqual(other.place_of("x"), 0)


class TestTogether(DialCase):

    def test_lesser_and_greater_worlds(self):
        one = World(3, {"x": 1}, {"f": [0, 2, 2], "g": [1, 1, 1]})
        other = World(3, {"x": 1}, {"f": [1, 1, 1], "g": [0, 1, 2]})
        self.assertEqual([(one & other).table_of(dial) for dial in "fg"], [[0, 1, 1], [0, 1, 1]])
        self.assertEqual([(one | other).table_of(dial) for dial in "fg"], [[1, 2, 2], [1, 1, 2]])
        self.assertEqual([one.table_of("f"), other.table_of("f")], [[0, 2, 2], [1, 1, 1]])

    def test_they_are_worlds_and_bound_the_values(self):
        for facts in [Facts(("f", "g")), Facts(("1", "f")), Facts(paired="f")]:
            worlds = list(walk_worlds(facts, 3, "fg"))[::7]
            for one, other in itertools.product(worlds, repeat=2):
                lesser, greater = one & other, one | other
                self.assertTrue(lesser.facts == facts and greater.facts == facts)
                for word in ["fx", "fgx", "gffx"]:
                    pair = [world.placed({"x": 1})(word) for world in (one, other)]
                    self.assertLessEqual(lesser.placed({"x": 1})(word), min(pair))
                    self.assertGreaterEqual(greater.placed({"x": 1})(word), max(pair))

    def test_worlds_that_are_unlike(self):
        world = World(3, {"x": 1}, {"f": [0, 1, 2]})
        others = [World(4, {"x": 1}, {"f": [0, 1, 2, 3]}), World(3, {"x": 2}, {"f": [0, 1, 2]}),
                  World(3, {}, {"f": [0, 1, 2]}), World(3, {"x": 1}, {}),
                  World(3, {"x": 1}, {"f": [0, 1, 2], "g": [0, 0, 0]}),
                  World(3, {"x": 1}, {"f": [0, 1, 2]}, Facts(("1", "f")))]
        for other in others:
            self.tells(Unlike(), lambda: world & other)
            self.tells(Unlike(), lambda: other | world)
            self.assertTrue(world != other)
            self.assertFalse(world == other)

    def test_facts_are_compared_by_what_they_say(self):
        facts, alike = Facts(("f", "g"), ("g", "h")), Facts(("f", "h"), ("g", "h"), ("f", "g"))
        tables = {dial: [0, 1] for dial in "fgh"}
        one, other = World(2, {}, tables, facts), World(2, {}, tables, alike)
        self.assertTrue(one == other)
        self.assertEqual(list((one & other).facts), list(facts))
        self.assertEqual(list((other | one).facts), list(alike))

    def test_equal(self):
        self.assertTrue(small_world() == small_world())
        self.assertFalse(small_world() != small_world())
        self.assertTrue(World(2, {"x": 0, "y": 1}, {"f": [0, 0], "g": [0, 1]})
                        == World(2, {"y": 1, "x": 0}, {"g": [0, 1], "f": [0, 0]}))
        self.assertFalse(World(2, {}, {"f": [0, 0]}) == World(2, {}, {"f": [0, 1]}))
        self.assertTrue(World(2, {}, {}) != "world")
        self.assertFalse(World(2, {}, {}) == World(3, {}, {}))
        self.tells(Unlike(), lambda: World(2, {}, {}) & World(3, {}, {}))


if __name__ == "__main__":
    unittest.main()
