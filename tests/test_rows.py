"""Value rows: point [37] and the heading unseendials/rows.py."""

import unittest
from math import comb

from helpers import SOME_FACTS, DialCase, walk_worlds
from unseendials.errors import BadSteps
from unseendials.facts import Facts
from unseendials.listings import group_counts
from unseendials.rows import row_count, rows_on
from unseendials.words import dials_of, points_of, tail_set


class TestRows(DialCase):

    def test_rows_of_all_worlds(self):
        for facts in SOME_FACTS:
            if facts.paired:
                continue
            for words in [["ffx"], ["fx", "gx"], ["gfx"], ["fx", "y"]]:
                points = "".join(points_of(words))
                for steps in (1, 2, 3):
                    told = {tuple(world(word) for word in tail_set(words))
                            for world in walk_worlds(facts, steps, dials_of(words), points)}
                    self.assertEqual(rows_on(words, facts, steps), len(told))

    def test_paired_dials_that_no_word_has(self):
        facts = Facts(("1", "f"), paired="a")
        self.assertEqual(rows_on(("ffx",), facts, 3), rows_on(["ffx"], Facts(("1", "f")), 3))

    def test_chains(self):
        counts = group_counts(["fx", "y"])
        for steps in (1, 2, 59, 60):
            self.assertEqual(rows_on(["fx", "y"], None, steps),
                             sum(many * comb(steps, at + 1) for at, many in enumerate(counts)))
        for steps in [0, 61, -1, 10 ** 17]:
            self.tells(BadSteps(steps), rows_on, ["fx"], None, steps)


class TestRowCount(DialCase):

    def test_counts(self):
        self.assertEqual(row_count([1, 2, 2], 3), 3 + 6 + 2)
        self.assertEqual([row_count([], 5), row_count([4, 7], 0), row_count((3,), 1)], [0, 0, 3])
        self.assertEqual(row_count([0, -2, 5], 2), -2)
        self.assertEqual(row_count([0, 1], 10 ** 17), 10 ** 17 * (10 ** 17 - 1) // 2)


if __name__ == "__main__":
    unittest.main()
