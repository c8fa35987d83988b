"""Tables: points [3], [4], [26] and [27]."""

import itertools
import unittest

from helpers import DialCase, back_of, first_of, rising_tables, walk_worlds
from unseendials.errors import BadSteps, NotGrounded
from unseendials.facts import Facts
from unseendials.tables import (back_table, greater_table, lesser_table, put_on, rising, threshold,
                                walk_tables)
from unseendials.worlds import World


def grounded_tables(steps):
    return [list(table) for table in rising_tables(steps) if table[0] == 0]


def never_lowers(table):
    return all(shown >= at for at, shown in enumerate(table))


def never_raises(table):
    return all(shown <= at for at, shown in enumerate(table))


class TestRising(DialCase):

    def test_all_lists_of_small_numbers(self):
        for steps in range(0, 5):
            told = [table for table in itertools.product(range(-1, steps + 1), repeat=steps)
                    if rising(list(table))]
            self.assertEqual(told, rising_tables(steps) if steps else [])

    def test_tuples_do_equally_well(self):
        self.assertIs(rising((0, 1, 1)), True)
        self.assertIs(rising((0, 2, 1)), False)
        self.assertIs(rising(()), False)
        self.assertIs(rising([]), False)
        self.assertEqual(back_table((0, 0, 1)), [1, 2, 2])
        self.assertEqual(put_on((0, 0, 2), (0, 2, 2)), [0, 2, 2])
        self.assertEqual(lesser_table((0, 2), (1, 1)), [0, 1])
        self.assertEqual(greater_table((0, 2), (1, 1)), [1, 2])
        self.assertEqual(threshold((0, 1, 1), 1), 1)

    def test_a_chain_of_one_step_and_a_long_one(self):
        self.assertTrue(rising([0]))
        self.assertFalse(rising([1]))
        self.assertTrue(rising([59] * 60))
        self.assertTrue(rising([70] * 71))
        self.assertFalse(rising([60] * 60))


class TestTables(DialCase):

    def test_back_tables(self):
        for steps in range(1, 6):
            for table in grounded_tables(steps):
                back = back_table(table)
                self.assertEqual(back, back_of(table))
                self.assertTrue(rising(back))

    def test_back_tables_of_lessers_and_greaters(self):
        for one, other in itertools.product(grounded_tables(4), repeat=2):
            backs = back_table(one), back_table(other)
            self.assertEqual(back_table(lesser_table(one, other)), greater_table(*backs))
            self.assertEqual(back_table(greater_table(one, other)), lesser_table(*backs))

    def test_tables_that_are_not_grounded(self):
        self.tells(NotGrounded(""), back_table, [1, 1, 2])
        self.tells(NotGrounded(""), back_table, (1, 1))

    def test_thresholds(self):
        table = [1, 1, 3, 3]
        found = [threshold(table, least) for least in (-5, 0, 1, 2, 3, 4, 10 ** 17)]
        self.assertEqual(found, [0, 0, 0, 2, 2, 4, 4])

    def test_tables_made_of_rising_tables_rise(self):
        for one, other in itertools.product(rising_tables(4), repeat=2):
            for call in [put_on, lesser_table, greater_table]:
                self.assertTrue(rising(call(one, other)))
            self.assertEqual(put_on(one, other), [one[shown] for shown in other])
            self.assertEqual(lesser_table(one, other), [min(pair) for pair in zip(one, other)])
            self.assertEqual(greater_table(one, other), [max(pair) for pair in zip(one, other)])

    def test_what_is_handed_out_is_new(self):
        table = [0, 1, 2]
        for made in [back_table(table), put_on(table, table), lesser_table(table, table),
                     greater_table(table, table)]:
            made[0] = 9
            self.assertEqual(table, [0, 1, 2])


class TestWalk(DialCase):

    def test_all_tables_in_order(self):
        for steps in range(1, 9):
            told = [tuple(table) for table in walk_tables(steps)]
            self.assertEqual(told, sorted(rising_tables(steps)))
        self.assertEqual(list(walk_tables(1)), [[0]])
        self.assertEqual(list(walk_tables(2)), [[0, 0], [0, 1], [1, 1]])
        self.assertEqual(len(list(walk_tables(8))), 6435)

    def test_each_list_is_new(self):
        told = []
        for table in walk_tables(3):
            told.append(list(table))
            table[0] = 9
        self.assertEqual(told, list(walk_tables(3)))

    def test_other_chains(self):
        for steps in [0, 9, -1, 10 ** 17]:
            walk = walk_tables(steps)
            self.tells(BadSteps(steps), next, walk)
        self.tells(BadSteps(9), first_of, walk_tables, 9)


class TestBackDials(DialCase):

    def test_a_and_its_back_dial(self):
        for world in walk_worlds(Facts(paired="a"), 4, ""):
            small, back = world.table_of("a"), world.table_of("A")
            for d, c in itertools.product(range(4), repeat=2):
                self.assertEqual(small[d] <= c, d <= back[c])
            self.assertEqual(back[3], 3)
            self.assertEqual(world.head_table("aAa"), small)
            self.assertEqual(world.head_table("AaA"), back)
            self.assertTrue(never_lowers(world.head_table("Aa")))
            self.assertTrue(never_raises(world.head_table("aA")))

    def test_back_dials_are_the_other_way_round(self):
        for world in walk_worlds(Facts(("a", "b"), paired="ab"), 3, ""):
            for low, high in zip(world.table_of("B"), world.table_of("A")):
                self.assertLessEqual(low, high)

    def test_roundings(self):
        for steps in range(1, 6):
            worlds = [World(steps, {}, {"a": table}, Facts(paired="a"))
                      for table in grounded_tables(steps)]
            still = [table for table in rising_tables(steps)
                     if put_on(table, table) == list(table)]
            ups = {tuple(world.head_table("Aa")) for world in worlds}
            downs = {tuple(world.head_table("aA")) for world in worlds}
            self.assertEqual(ups, {table for table in still if never_lowers(table)})
            self.assertEqual(downs, {table for table in still if never_raises(table)})
            self.assertEqual([len(ups), len(downs)], [2 ** (steps - 1)] * 2)

    def test_where_roundings_come_from(self):
        for table in rising_tables(4):
            if put_on(table, table) != list(table):
                continue
            if never_lowers(table):
                counts = [len({low for low in table if low < shown}) for shown in table]
                world = World(4, {}, {"a": counts}, Facts(paired="a"))
                self.assertEqual(world.head_table("Aa"), list(table))
            if never_raises(table):
                world = World(4, {}, {"a": table}, Facts(paired="a"))
                self.assertEqual(world.head_table("aA"), list(table))


if __name__ == "__main__":
    unittest.main()
