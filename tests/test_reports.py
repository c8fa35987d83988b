"""Printed tables: point [144], and points [36] and [37] as the table of rows shows them."""

import unittest

from helpers import DialCase, walk_worlds
from unseendials.comparisons import le, lt
from unseendials.desk import Desk
from unseendials.facts import Facts
from unseendials.listings import group_counts
from unseendials.rankings import Ranking
from unseendials.reports import desk_lines, ranking_lines, rows_lines
from unseendials.words import dials_of, points_of, tail_set


class TestReports(DialCase):

    def test_groups_of_a_ranking(self):
        ranking = Ranking([["y"], ["x", "fx", "Ay"], ["ffx"]])
        self.assertEqual(ranking_lines(ranking), ["  2 ffx", "  1 x = Ay = fx", "  0 y"])
        self.assertEqual(ranking_lines(Ranking([["x"]])), ["  0 x"])
        many = Ranking([["f" * at + "x"] for at in range(12)])
        self.assertEqual(ranking_lines(many)[0], " 11 " + "f" * 11 + "x")
        self.assertEqual(len(ranking_lines(many)), 12)

    def test_numbers_of_rows(self):
        self.assertEqual(rows_lines([1, 2, 2], 4), ["   1           1", "   2           4",
                                                    "   3          11", "   4          24"])
        self.assertEqual(rows_lines([1, 2], 0), [])
        self.assertEqual(rows_lines((), 1), ["   1           0"])
        self.assertEqual(rows_lines([10 ** 12], 1), ["   1" + "1000000000000"])
        self.assertEqual(rows_lines([-3, 1], 3)[2], "   3          -6")
        self.assertEqual(rows_lines([1], 10000)[9998:], ["9999        9999", "10000       10000"])

    def test_numbers_of_rows_are_those_of_worlds(self):
        for words, facts in [(["ffx"], Facts()), (["fx", "y"], Facts()), (["ffx"], Facts(("1", "f"))),
                             (["fx", "gx"], Facts(("f", "g")))]:
            lines = rows_lines(group_counts(words, facts), 3)
            for steps in (1, 2, 3):
                rows = {tuple(world(word) for word in tail_set(words))
                        for world in walk_worlds(facts, steps, dials_of(words), points_of(words))}
                self.assertEqual(lines[steps - 1], f"{steps}".rjust(4) + f"{len(rows)}".rjust(12))

    def test_tells_of_a_desk(self):
        desk = Desk()
        self.assertEqual(desk_lines(desk), ["room 12"])
        desk.tell(lt("x", "fgx"))
        desk.tell(le("f" * 13 + "x", "x"))
        desk.tell(le("ffffffffffx", "x"))
        self.assertEqual(desk_lines(desk), ["  1 x           <  fgx", "  2 fffffffffffffx<= x",
                                            "  3 ffffffffffx <= x", "room 9"])
        desk.set_room(3)
        self.assertEqual(desk_lines(desk)[-1], "room 0")
        full = Desk()
        for _ in range(12):
            full.tell(le("x", "y"))
        self.assertEqual(desk_lines(full)[9:], [" 10 x           <= y", " 11 x           <= y",
                                                " 12 x           <= y", "room 0"])

    def test_they_are_new(self):
        ranking = Ranking([["x"]])
        ranking_lines(ranking).clear()
        self.assertEqual(ranking_lines(ranking), ["  0 x"])


if __name__ == "__main__":
    unittest.main()
