"""Sketches and clashes: points [16], [17] and [18]."""

import itertools
import random
import unittest

from helpers import SOME_FACTS, DialCase, shown, table_choices
from unseendials.errors import BadEntry, BadPlace, BadSteps, Clash, NoPlace
from unseendials.facts import Facts
from unseendials.sketches import Sketch


def letters_of(facts):
    """Return the letters that entries of some test can have."""
    dials = sorted(set(facts.dial_list()) | {"f"})
    return dials + [dial.upper() for dial in facts.paired]


def all_entries(facts, steps):
    return list(itertools.product(letters_of(facts), range(steps), range(steps)))


def completions_of(choices, entries):
    """Return the choices of tables that show all the entries."""
    return [tables for tables in choices
            if all(shown(tables, letter, at) == step for letter, at, step in entries)]


class TestMaking(DialCase):

    def test_an_empty_sketch(self):
        sketch = Sketch(3)
        self.assertEqual([sketch.steps, len(sketch.facts), len(sketch)], [3, 0, 0])
        self.assertEqual([sketch.entry_list(), sketch.point_list()], [[], []])
        self.assertTrue(Sketch(3, None).facts == Facts())
        self.assertEqual(Sketch(3, Facts(("f", "g"), paired="a")).facts.dial_list(),
                         ["a", "f", "g"])

    def test_steps(self):
        for steps in [0, 61, -3, 10 ** 17]:
            self.tells(BadSteps(steps), Sketch, steps, None, places={"f": 0})
        self.assertEqual([Sketch(1).steps, Sketch(60).steps], [1, 60])

    def test_places(self):
        places = {"y": 2, "x": 0}
        sketch = Sketch(3, places=places)
        places["y"] = 1
        sketch.point_list().append("z")
        self.assertEqual([sketch.point_list(), sketch.place_of("y")], [["x", "y"], 2])
        self.tells(NoPlace("z"), sketch.place_of, "z")
        self.tells(BadPlace("x", 3), Sketch, 3, places={"y": 1, "x": 3, "a": 0})
        self.tells(BadPlace("a", 0), Sketch, 3, places={"y": 1, "a": 0, "x": 3})


class TestReading(DialCase):

    def test_entries_stand_in_the_order_of_reading(self):
        sketch = Sketch(4, Facts(paired="a"))
        for entry in [("g", 1, 2), ("a", 0, 0), ("A", 3, 3), ("f", 0, 3), ("g", 1, 2)]:
            self.assertIsNone(sketch.read(*entry))
        entries = [("g", 1, 2), ("a", 0, 0), ("A", 3, 3), ("f", 0, 3)]
        self.assertEqual([sketch.entry_list(), len(sketch)], [entries, 4])
        sketch.entry_list().pop()
        self.assertEqual(sketch.entry_list(), entries)

    def test_entries_that_are_in(self):
        sketch = Sketch(3, Facts(paired="a"))
        sketch.read("f", 1, 2)
        self.assertTrue(("f", 1, 2) in sketch)
        for worth in [["f", 1, 2], ("f", 1, 1), ("g", 1, 2), ("a", 0, 0), ("1", 1, 1), "f", None,
                      ("f", 1), (["f"], 1, 2)]:
            self.assertFalse(worth in sketch)

    def test_entries_that_cannot_be(self):
        sketch = Sketch(3, Facts(("f", "1"), paired="a"))
        for entry in [("1", 0, 0), ("F", 0, 0), ("x", 0, 0), ("", 0, 0), ("aA", 0, 0), ("f", 3, 0),
                      ("f", 0, 3), ("f", -1, 0), ("A", 0, -1), ("a", 10 ** 17, 0)]:
            self.tells(BadEntry(*entry), sketch.read, *entry)
            self.tells(BadEntry(*entry), sketch.clash_of, *entry)
        self.assertEqual(len(sketch), 0)

    def test_one_step_and_sixty(self):
        small = Sketch(1, Facts(paired="a"))
        for letter in ["f", "a", "A"]:
            small.read(letter, 0, 0)
        self.assertEqual(len(small), 3)
        large = Sketch(60)
        for at in range(60):
            large.read("f", at, 59 - (59 - at) // 2)
        self.assertEqual(len(large), 60)
        self.assertEqual(large.clash_of("f", 10, 59)[0], 1)

    def test_a_sketch_that_raised_is_as_it_was(self):
        sketch = Sketch(4, Facts(("f", "g")), places={"x": 1})
        sketch.read("g", 1, 2)
        self.tells(Clash(1, ("f", 1, 3), ("g", 1, 2)), sketch.read, "f", 1, 3)
        self.assertEqual([sketch.entry_list(), len(sketch)], [[("g", 1, 2)], 1])
        self.assertIsNone(sketch.clash_of("f", 1, 2))
        sketch.read("f", 1, 0)
        self.assertEqual(len(sketch), 2)

    def test_asking_for_a_clash_changes_nothing(self):
        sketch = Sketch(3)
        sketch.read("f", 1, 1)
        self.assertIsNone(sketch.clash_of("f", 2, 2))
        self.assertIsNone(sketch.clash_of("f", 1, 1))
        self.assertEqual(sketch.clash_of("f", 0, 2), (1, ("f", 0, 2), ("f", 1, 1)))
        self.assertEqual(sketch.entry_list(), [("f", 1, 1)])

    def test_entries_that_count_besides(self):
        paired = Sketch(3, Facts(paired="a"))
        for entry in [("a", 0, 1), ("A", 2, 1)]:
            self.told_clash(paired, paired.clash_of(*entry))
            self.assertNotIn(entry, paired)
        low = Sketch(3, Facts(("f", "1")))
        rule, one, other = low.clash_of("f", 1, 2)
        self.assertIn((rule, one, other[0]), [(1, ("f", 1, 2), "1"), (2, ("f", 1, 2), "1")])
        for entry in [("a", 0, 0), ("A", 2, 2)]:
            self.assertIsNone(paired.read(*entry))
        self.assertEqual(len(paired), 2)

    def test_twins(self):
        sketch = Sketch(3, Facts(("f", "g")), places={"x": 1})
        sketch.read("f", 1, 1)
        twin = sketch.twin()
        self.assertEqual([twin.steps, twin.entry_list(), twin.point_list(), twin.place_of("x")],
                         [3, [("f", 1, 1)], ["x"], 1])
        self.assertTrue(twin.facts == sketch.facts)
        twin.read("g", 1, 2)
        sketch.read("g", 1, 1)
        self.assertEqual([len(twin), len(sketch)], [2, 2])
        self.assertEqual([("g", 1, 2) in sketch, ("g", 1, 1) in twin], [False, False])
        self.told_clash(twin, twin.clash_of("g", 1, 0))
        self.assertEqual(sketch.clash_of("f", 0, 2)[0], 1)


class TestAgreeing(DialCase):

    def agree_exactly_if_completed(self, facts, steps, entries, choices):
        """Read the entries; those that clash must be those without a completion."""
        sketch = Sketch(steps, facts)
        for entry in entries:
            completed = completions_of(choices, sketch.entry_list() + [entry])
            clash = sketch.clash_of(*entry)
            self.assertEqual(clash is None, len(completed) > 0)
            if clash is None:
                sketch.read(*entry)
                continue
            self.told_clash(sketch, clash)
            before = sketch.entry_list()
            for told in clash[1:]:
                self.assertTrue(told == entry or told in sketch or counts_besides(told, sketch))
            with self.assertRaises(Clash) as caught:
                sketch.read(*entry)
            self.told_clash(sketch, tuple(vars(caught.exception).values()))
            self.assertEqual(sketch.entry_list(), before)

    def test_all_pairs_of_entries_on_small_chains(self):
        for facts in SOME_FACTS:
            for steps in (1, 2):
                choices = table_choices(facts, steps, "f")
                for entries in itertools.product(all_entries(facts, steps), repeat=2):
                    self.agree_exactly_if_completed(facts, steps, entries, choices)

    def test_longer_lists_of_entries(self):
        dice = random.Random(17)
        for facts in SOME_FACTS:
            choices = table_choices(facts, 3, "f")
            entries = all_entries(facts, 3)
            for _ in range(40):
                self.agree_exactly_if_completed(facts, 3, dice.sample(entries, 6), choices)

    def test_each_rule_can_be_broken(self):
        facts = Facts(("a", "b"), paired="ab")
        for rule, first, second in [(1, ("a", 1, 2), ("b", 2, 1)), (2, ("a", 1, 2), ("B", 1, 2)),
                                    (3, ("A", 2, 0), ("b", 1, 1)), (4, ("A", 2, 0), ("B", 1, 1))]:
            sketch = Sketch(4, facts)
            sketch.read(*first)
            clash = sketch.clash_of(*second)
            self.assertEqual(clash, (rule, first, second))


def counts_besides(entry, sketch):
    letter, at, step = entry
    if letter == "1":
        return at == step
    if not sketch.facts.has_pair(letter):
        return False
    return at == step == (0 if letter.islower() else sketch.steps - 1)


if __name__ == "__main__":
    unittest.main()
