"""Runs of plain words and fewest readings: points [132] to [135]."""

import itertools
import random
import unittest

from brute import value_in
from helpers import DialCase
from test_papers import entries_of, sketch_of
from unseendials.completions import greatest_world, least_world
from unseendials.errors import BadStand, BadWord, NoPlace, NotPlain, NoTable
from unseendials.facts import Facts
from unseendials.papers import is_paper
from unseendials.runsof import fewest_readings, floor_readings, high_run, low_run
from unseendials.worlds import World


def some_plain(seed, many, most_steps=4, most_dials=3):
    luck = random.Random(seed)
    for _ in range(many):
        steps = luck.randint(1, most_steps)
        dials = luck.sample("fghk", luck.randint(1, most_dials))
        tables = {dial: sorted(luck.choices(range(steps), k=steps)) for dial in dials}
        yield "".join(dials) + "x", World(steps, {"x": luck.randrange(steps)}, tables)


def run_by(word, world, start, step):
    run = [step]
    for dial in word[:start][::-1]:
        run.append(world.table_of(dial)[run[-1]])
    return run


def met_by(word, run):
    """Return the entries that a run meets."""
    start = len(run) - 1
    return {(word[start - 1 - at], run[at], run[at + 1]) for at in range(start)}


class TestRuns(DialCase):

    def test_the_runs(self):
        for word, world in some_plain(1, 80):
            for start in range(len(word)):
                self.assertEqual(low_run(word, world, start), run_by(word, world, start, 0))
                self.assertEqual(high_run(word, world, start),
                                 run_by(word, world, start, world.steps - 1))

    def test_example(self):
        world = World(4, {"x": 1}, {"f": [2, 2, 2, 2], "g": [0, 1, 1, 2], "h": [0, 0, 3, 3]})
        self.assertEqual((low_run("fghx", world, 1), high_run("fghx", world, 1)), ([0, 2], [3, 2]))
        self.assertEqual((low_run("fghx", world, 0), high_run("fghx", world, 3)), ([0], [3, 3, 2, 2]))
        self.assertEqual(fewest_readings("fghx", world), [("f", 0, 2), ("f", 3, 2)])
        self.assertEqual(floor_readings("fghx", world), [("f", 0, 2)])

    def test_errors_in_order(self):
        world = World(3, {"x": 0}, {"f": [0, 0, 1], "g": [0, 1, 2]})
        facts = World(3, {"x": 0}, {"f": [0, 0, 1]}, Facts(("f", "f")))
        pairs = World(3, {"x": 0}, {"f": [0, 0, 1], "a": [0, 0, 0]}, Facts(paired="a"))
        calls = [lambda word, one: low_run(word, one, 9), lambda word, one: high_run(word, one, 9),
                 fewest_readings, floor_readings]
        for call in calls:
            self.tells(BadWord("ff"), call, "ff", facts)
            for word, one in [("x", world), ("ffy", world), ("Fx", world), ("fGx", world), ("fgfx", world),
                              ("fx", facts), ("fx", pairs), ("hAy", pairs), ("y", world)]:
                self.tells(NotPlain(word), call, word, one)
            self.tells(NoPlace("y"), call, "khy", world)
            self.tells(NoTable("h"), call, "khx", world)
        for call in (low_run, high_run):
            for start in (-1, 3, 9):
                self.tells(BadStand(start), call, "fgx", world, start)
            self.assertEqual(len(call("fgx", world, 2)), 3)


class TestFewest(DialCase):

    def test_as_few_as_any(self):
        sizes = {}
        for word, world in some_plain(2, 120, 3, 2):
            every = [entry for entry in entries_of(world) if entry[0] in word]
            least = min(many for many in range(len(every) + 1)
                        if any(is_paper(part, word, world) for part in itertools.combinations(every, many)))
            found = fewest_readings(word, world)
            self.right(found, word, world)
            self.assertEqual(len(found), least)
            sizes[least] = sizes.get(least, 0) + 1
        self.assertEqual(sorted(sizes), [0, 1, 2])

    def right(self, found, word, world):
        self.assertEqual(found, sorted(set(found)))
        self.assertTrue(all(entry in entries_of(world) for entry in found))
        self.assertIs(is_paper(found, word, world), True)

    def test_as_point_133_counts(self):
        through = 0
        for word, world in some_plain(3, 200, 5, 4):
            value, m = value_in(world, word), len(word) - 1
            numbers = [m]
            for s, t in itertools.product(range(m + 1), repeat=2):
                low, high = run_by(word, world, s, 0), run_by(word, world, t, world.steps - 1)
                if low[-1] == high[-1] == value:
                    numbers.append(len(met_by(word, low) | met_by(word, high)))
            found = fewest_readings(word, world)
            self.right(found, word, world)
            self.assertEqual(len(found), min(numbers))
            through += len(found) < m
        self.assertGreater(through, 20)

    def test_floors_as_few_as_any(self):
        sizes = {}
        for word, world in some_plain(4, 120, 3, 2):
            every = [entry for entry in entries_of(world) if entry[0] in word]
            least = min(many for many in range(len(every) + 1) if any(
                self.certain(part, word, world) for part in itertools.combinations(every, many)))
            found = floor_readings(word, world)
            self.assertEqual(found, sorted(set(found)))
            self.assertTrue(self.certain(found, word, world))
            self.assertEqual(len(found), least)
            sizes[least] = sizes.get(least, 0) + 1
        self.assertEqual(sorted(sizes), [0, 1, 2])

    @staticmethod
    def certain(entries, word, world):
        """Return whether the word has at least its value; the least world shows its least value."""
        lowest = least_world(sketch_of(entries, world), list(word[:-1]))
        assert greatest_world(sketch_of(entries, world), list(word[:-1]))(word) >= lowest(word)
        return value_in(lowest, word) >= value_in(world, word)

    def test_as_point_134_counts(self):
        for word, world in some_plain(5, 200, 5, 4):
            value, m = value_in(world, word), len(word) - 1
            fitting = [s for s in range(m + 1) if run_by(word, world, s, 0)[-1] == value]
            found = floor_readings(word, world)
            self.assertEqual(len(found), min(fitting, default=m))
            self.assertTrue(all(entry in entries_of(world) for entry in found))
            self.assertTrue(self.certain(found, word, world))

    def test_one_step_needs_no_reading(self):
        world = World(1, {"x": 0}, {"f": [0], "g": [0]})
        self.assertEqual((fewest_readings("fgx", world), floor_readings("fgx", world)), ([], []))


if __name__ == "__main__":
    unittest.main()
