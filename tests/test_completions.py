"""Completions, clamps and stretches: points [18] to [21] and [24]."""

import random
import unittest

from helpers import SOME_FACTS, DialCase, shown, table_choices, walk_worlds
from test_sketches import all_entries, completions_of, letters_of
from unseendials.completions import clamp, greatest_world, is_completion, least_world, stretch
from unseendials.errors import BadEntry, BadLetter, Unlike
from unseendials.facts import Facts
from unseendials.sketches import Sketch
from unseendials.worlds import World


def some_sketches(facts, steps, many, places=None):
    """Return some sketches with few and with many entries, always the same ones."""
    dice = random.Random(steps * 100 + len(facts))
    entries = all_entries(facts, steps)
    made = []
    for size in range(many):
        sketch = Sketch(steps, facts, places=places)
        for entry in dice.sample(entries, min(size, len(entries))):
            if sketch.clash_of(*entry) is None:
                sketch.read(*entry)
        made.append(sketch)
    return made


def choices_for(sketch):
    choices = table_choices(sketch.facts, sketch.steps, "f")
    return completions_of(choices, sketch.entry_list())


class TestLeastAndGreatest(DialCase):

    def test_they_are_the_least_and_the_greatest_of_the_list(self):
        for facts in SOME_FACTS:
            for sketch in some_sketches(facts, 3, 9):
                choices = choices_for(sketch)
                least, greatest = least_world(sketch, "f"), greatest_world(sketch, ["f"])
                for dial in least.dial_list():
                    columns = list(zip(*[tables[dial] for tables in choices]))
                    self.assertEqual(least.table_of(dial), [min(column) for column in columns])
                    self.assertEqual(greatest.table_of(dial), [max(column) for column in columns])
                for world in (least, greatest):
                    self.assertTrue(is_completion(sketch, world))

    def test_what_they_are_made_of(self):
        facts = Facts(("g", "f"), paired="b")
        sketch = Sketch(4, facts, places={"y": 2})
        sketch.read("k", 1, 2)
        sketch.read("B", 1, 1)
        for made in (least_world, greatest_world):
            world = made(sketch)
            self.assertEqual([world.steps, world.point_list(), world.place_of("y")], [4, ["y"], 2])
            self.assertTrue(world.facts == facts)
            self.assertEqual(world.dial_list(), ["b", "f", "g", "k"])
            self.assertEqual(made(sketch, ("m", "f", "m")).dial_list(), ["b", "f", "g", "k", "m"])
            self.assertEqual(made(Sketch(2), ["m"]).dial_list(), ["m"])
            self.tells(BadLetter("A"), made, sketch, ["m", "A", "x"])
            self.tells(BadLetter("1"), made, sketch, "m1")
            self.tells(BadLetter(""), made, sketch, [""])

    def test_nothing_is_read(self):
        sketch = Sketch(3, Facts(paired="a"))
        self.assertEqual(least_world(sketch, ["f"]).table_of("f"), [0, 0, 0])
        self.assertEqual(greatest_world(sketch, ["f"]).table_of("f"), [2, 2, 2])
        self.assertEqual(least_world(sketch).table_of("a"), [0, 0, 0])
        self.assertEqual(greatest_world(sketch).table_of("a"), [0, 2, 2])

    def test_chains_of_one_step_and_of_sixty(self):
        small = Sketch(1, Facts(paired="a"))
        small.read("A", 0, 0)
        self.assertTrue(least_world(small) == greatest_world(small))
        large = Sketch(60, Facts(("f", "1")))
        large.read("f", 30, 20)
        self.assertEqual(least_world(large).table_of("f"), [0] * 30 + [20] * 30)
        self.assertEqual(greatest_world(large).table_of("f"),
                         list(range(20)) + [20] * 11 + list(range(31, 60)))

    def test_what_is_handed_in_stays(self):
        sketch = Sketch(3)
        sketch.read("f", 1, 1)
        dials = ["g"]
        world = least_world(sketch, dials)
        world.table_of("f")[0] = 2
        self.assertEqual([dials, sketch.entry_list()], [["g"], [("f", 1, 1)]])
        sketch.read("f", 2, 2)
        self.assertEqual(world.table_of("f"), [0, 1, 1])


class TestClamps(DialCase):

    def test_clamps_are_the_completions(self):
        for facts in SOME_FACTS:
            worlds = list(walk_worlds(facts, 3, "f"))
            for sketch in some_sketches(facts, 3, 7):
                clamps = [clamp(sketch, world) for world in worlds]
                for world, clamped in zip(worlds, clamps):
                    self.assertTrue(is_completion(sketch, clamped))
                    if is_completion(sketch, world):
                        self.assertTrue(clamped == world)
                told = {tuple(tuple(world.table_of(dial)) for dial in world.dial_list())
                        for world in clamps}
                self.assertEqual(told, {tuple(tables.values()) for tables in choices_for(sketch)})

    def test_clamps_place_by_place(self):
        sketch = Sketch(4, places={"x": 3})
        sketch.read("f", 1, 2)
        world = World(4, {"y": 1}, {"f": [0, 0, 1, 3], "g": [3, 3, 3, 3]})
        clamped = clamp(sketch, world)
        self.assertEqual(clamped.table_of("f"), [0, 2, 2, 3])
        self.assertEqual([clamped.point_list(), clamped.dial_list()], [["y"], ["f", "g"]])
        self.assertEqual([clamped.table_of("g"), clamped.place_of("y")], [[3, 3, 3, 3], 1])

    def test_completions(self):
        for facts in SOME_FACTS:
            for sketch in some_sketches(facts, 2, 6):
                for world in walk_worlds(facts, 2, "f"):
                    tables = {dial: world.table_of(dial) for dial in world.dial_list()}
                    shows = all(shown(tables, letter, at) == step
                                for letter, at, step in sketch.entry_list())
                    self.assertIs(is_completion(sketch, world), shows)

    def test_worlds_that_are_unlike(self):
        facts = Facts(("f", "g"))
        sketch = Sketch(2, facts)
        sketch.read("k", 0, 0)
        still = [0, 1]
        tables = {"f": still, "g": still, "k": still}
        for world in [World(3, {}, {dial: [0, 1, 2] for dial in "fgk"}, facts),
                      World(2, {}, tables), World(2, {}, {"f": still, "g": still}, facts)]:
            self.tells(Unlike(), clamp, sketch, world)
            self.tells(Unlike(), is_completion, sketch, world)
        self.assertTrue(is_completion(sketch, World(2, {}, tables, Facts(("f", "g"), ("f", "f")))))

    def test_dials_that_only_the_facts_of_the_sketch_name(self):
        sketch = Sketch(2, Facts(("f", "f")))
        world = World(2, {}, {"g": [1, 1]})
        self.assertEqual(clamp(sketch, world).dial_list(), ["g"])


class TestStretches(DialCase):

    def test_stretches_are_what_the_list_shows(self):
        for facts in SOME_FACTS:
            for sketch in some_sketches(facts, 3, 8):
                choices = choices_for(sketch)
                for letter in letters_of(facts):
                    for at in range(3):
                        steps = {shown(tables, letter, at) for tables in choices}
                        low, high = stretch(sketch, letter, at)
                        self.assertEqual(steps, set(range(low, high + 1)))
                        for step in range(3):
                            clash = sketch.clash_of(letter, at, step)
                            self.assertEqual(clash is None, low <= step <= high)

    def test_stretches_of_back_dials(self):
        sketch = Sketch(4, Facts(paired="a"))
        sketch.read("A", 1, 2)
        self.assertEqual([stretch(sketch, "A", at) for at in range(4)],
                         [(0, 2), (2, 2), (2, 3), (3, 3)])
        self.assertEqual(stretch(sketch, "g", 2), (0, 3))
        self.assertIs(type(stretch(sketch, "A", 0)), tuple)

    def test_errors(self):
        sketch = Sketch(3, Facts(paired="a"))
        for letter, at in [("F", 0), ("1", 0), ("x", 1), ("f", 3), ("A", -1), ("", 0)]:
            self.tells(BadEntry(letter, at, at), stretch, sketch, letter, at)


class TestMoreEntries(DialCase):

    def test_more_entries_leave_fewer_completions(self):
        for less, more in [(Facts(), Facts(("f", "g"))), (Facts(("f", "g")), Facts(("f", "g"),
                            ("g", "1"))), (Facts(paired="a"), Facts(("1", "a"), paired="a"))]:
            for longer in some_sketches(more, 3, 7):
                shorter = Sketch(3, less)
                for entry in longer.entry_list()[::2]:
                    shorter.read(*entry)
                dials = sorted(set(less.dial_list() + more.dial_list() + ["f"]))
                for dial in dials:
                    for low, high in zip(least_world(shorter, dials).table_of(dial),
                                         least_world(longer, dials).table_of(dial)):
                        self.assertLessEqual(low, high)
                    for low, high in zip(greatest_world(longer, dials).table_of(dial),
                                         greatest_world(shorter, dials).table_of(dial)):
                        self.assertLessEqual(low, high)
                for tables in completions_of(table_choices(more, 3, dials), longer.entry_list()):
                    self.assertTrue(is_completion(shorter, World(3, {}, tables, less)))


if __name__ == "__main__":
    unittest.main()
