"""Counts of tables: points [22] and [23]."""

import itertools
import random
import unittest
from math import comb, prod

from helpers import SOME_FACTS, DialCase, rising_tables, table_choices
from test_completions import choices_for, some_sketches
from unseendials.completions import greatest_world, least_world
from unseendials.counting import (count_between, count_tables, grounded_on, never_lower_on,
                                  pairs_on, tables_on)
from unseendials.errors import BadLetter, BadSteps
from unseendials.facts import Facts
from unseendials.sketches import Sketch
from unseendials.tables import lesser_table


def count_formula(entries, steps):
    """Count as point [22] tells it for a dial with these entries and no facts."""
    rows = sorted((at, step) for _, at, step in entries)
    first, last = rows[0], rows[-1]
    factors = [comb(sum(first), first[0]), comb(2 * steps - 2 - sum(last), steps - 1 - last[0])]
    factors += [comb(at2 - at - 1 + step2 - step, at2 - at - 1)
                for (at, step), (at2, step2) in zip(rows, rows[1:])]
    return prod(factors)


class TestBetween(DialCase):

    def test_all_lists_between(self):
        for low, high in itertools.product(itertools.product(range(3), repeat=3), repeat=2):
            if all(one <= other for one, other in zip(low, high)):
                rows = itertools.product(*[range(one, other + 1) for one, other in zip(low, high)])
                many = sum(1 for row in rows if list(row) == sorted(row))
                self.assertEqual(count_between(list(low), high), many)

    def test_edges(self):
        self.assertEqual([count_between([], []), count_between((), ())], [1, 1])
        self.assertEqual(count_between([59], [59]), 1)
        self.assertEqual(count_between([3, 1], [3, 2]), 0)
        self.assertEqual(count_between([0] * 60, [59] * 60), comb(119, 60))


class TestTablesOfSketches(DialCase):

    def test_completions_are_the_lists_between(self):
        for facts in SOME_FACTS:
            joined = {part for pair in facts if "1" not in pair for part in pair}
            for sketch in some_sketches(facts, 3, 8):
                dials = least_world(sketch, "f").dial_list()
                for dial in dials:
                    if dial in joined:
                        self.tells(BadLetter(dial), count_tables, sketch, dial)
                        continue
                    tables = {choice[dial] for choice in choices_for(sketch)}
                    self.assertEqual(count_tables(sketch, dial), len(tables))
                    low, high = [made(sketch, dials).table_of(dial)
                                 for made in (least_world, greatest_world)]
                    between = {table for table in rising_tables(3) if all(
                        a <= b <= c for a, b, c in zip(low, table, high))}
                    self.assertEqual(tables, between)

    def test_the_product_of_point_22(self):
        dice = random.Random(3)
        for _ in range(60):
            steps = dice.randrange(2, 12)
            sketch = Sketch(steps)
            for _ in range(4):
                entry = ("f", dice.randrange(steps), dice.randrange(steps))
                if sketch.clash_of(*entry) is None:
                    sketch.read(*entry)
            self.assertEqual(count_tables(sketch, "f"), count_formula(sketch.entry_list(), steps))

    def test_without_entries(self):
        for steps in [1, 2, 5, 60]:
            self.assertEqual(count_tables(Sketch(steps), "f"), comb(2 * steps - 1, steps))
            self.assertEqual(count_tables(Sketch(steps, Facts(paired="a")), "a"),
                             comb(2 * steps - 2, steps - 1))

    def test_numbers_of_dials_that_nothing_joins_are_multiplied(self):
        facts = Facts(("1", "f"), ("g", "1"), ("g", "g"))
        for sketch in some_sketches(facts, 3, 8):
            self.assertEqual(count_tables(sketch, "f") * count_tables(sketch, "g"),
                             len(choices_for(sketch)))

    def test_letters_that_cannot_be_counted(self):
        sketch = Sketch(3, Facts(("f", "g"), ("h", "h"), ("1", "k"), ("a", "b"), paired="ab"))
        for letter in ["f", "g", "a", "b", "A", "1", "x", "", "hk"]:
            self.tells(BadLetter(letter), count_tables, sketch, letter)
        self.assertEqual([count_tables(sketch, dial) for dial in "hkm"], [10, 5, 10])


class TestNumbers(DialCase):

    def test_the_numbers_of_point_23(self):
        for steps in range(1, 6):
            tables = rising_tables(steps)
            still = tuple(range(steps))
            ups = [table for table in tables if lesser_table(table, still) == list(still)]
            downs = [table for table in tables if lesser_table(table, still) == list(table)]
            self.assertEqual(tables_on(steps), len(tables))
            self.assertEqual([never_lower_on(steps)] * 2, [len(ups), len(downs)])
            self.assertEqual(pairs_on(steps), sum(
                1 for one, other in itertools.product(tables, repeat=2)
                if lesser_table(one, other) == list(one)))
            self.assertEqual(grounded_on(steps), sum(1 for table in tables if table[0] == 0))
            grounded_ups = [table for table in ups if table[0] == 0]
            self.assertEqual(len(grounded_ups), never_lower_on(steps - 1) if steps > 1 else 1)
            self.assertEqual(len([table for table in downs if table[0] == 0]),
                             never_lower_on(steps))

    def test_they_count_choices_of_tables(self):
        for steps in (1, 2, 3, 4):
            self.assertEqual(pairs_on(steps), len(table_choices(Facts(("f", "g")), steps, "")))
            self.assertEqual(never_lower_on(steps), len(table_choices(Facts(("1", "f")), steps, "")))
            self.assertEqual(grounded_on(steps), len(table_choices(Facts(paired="a"), steps, "")))

    def test_the_longest_chain(self):
        self.assertEqual(tables_on(60), comb(119, 60))
        self.assertEqual(never_lower_on(60), comb(120, 60) // 61)
        self.assertEqual(pairs_on(60), tables_on(60) * never_lower_on(60))
        self.assertEqual(grounded_on(60), comb(118, 59))

    def test_other_chains(self):
        for call in [tables_on, never_lower_on, pairs_on, grounded_on]:
            for steps in [0, 61, -1, 10 ** 17]:
                self.tells(BadSteps(steps), call, steps)


if __name__ == "__main__":
    unittest.main()
