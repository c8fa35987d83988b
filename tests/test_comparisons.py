"""Comparisons and tales: point [46]."""

import unittest

from helpers import DialCase
from unseendials.comparisons import Comparison, Tale, le, lt
from unseendials.errors import BadSign, BadWord, NoPlace, NoTable
from unseendials.facts import Facts
from unseendials.worlds import World

WORLD = World(3, {"x": 0, "y": 2}, {"f": [1, 1, 2], "a": [0, 0, 2]}, Facts(paired="a"))


class TestComparison(DialCase):

    def test_parts(self):
        for made, sign in [(le("fx", "y"), "<="), (lt("fx", "y"), "<"),
                           (Comparison("fx", "<=", "y"), "<="), (Comparison("fx", "<", "y"), "<")]:
            self.assertEqual((made.first, made.sign, made.second), ("fx", sign, "y"))
            self.assertEqual(made.written(), f"fx {sign} y")
        self.assertEqual(le("Ax", "Ax").written(), "Ax <= Ax")

    def test_errors_in_order(self):
        self.tells(BadWord("f"), Comparison, "f", "?", "g")
        self.tells(BadWord("g"), Comparison, "fx", "?", "g")
        for sign in ["", "=", ">", ">=", "<<", " <", "=<"]:
            self.tells(BadSign(sign), Comparison, "fx", sign, "gx")
        self.tells(BadWord(""), le, "", "1")
        self.tells(BadWord("1"), lt, "x", "1")

    def test_reverse(self):
        self.assertEqual(~le("x", "fy"), lt("fy", "x"))
        self.assertEqual(~lt("x", "fy"), le("fy", "x"))
        one = le("x", "y")
        self.assertIsNot(~~one, one)
        self.assertEqual(one, le("x", "y"))

    def test_one_of_the_two_holds(self):
        words = ["x", "y", "fx", "fy", "ax", "Ay", "Ax"]
        for p in words:
            for q in words:
                for one in (le(p, q), lt(p, q)):
                    self.assertIs((~one).holds_in(WORLD), not one.holds_in(WORLD))
                self.assertIs(le(p, q).holds_in(WORLD), WORLD(p) <= WORLD(q))
                self.assertIs(lt(p, q).holds_in(WORLD), WORLD(p) < WORLD(q))

    def test_equal(self):
        self.assertEqual(le("x", "y"), Comparison("x", "<=", "y"))
        for other in [lt("x", "y"), le("y", "x"), le("x", "z"), le("z", "y"), "x <= y", None]:
            self.assertNotEqual(le("x", "y"), other)

    def test_the_first_word_is_asked_first(self):
        self.tells(NoPlace("z"), le("fz", "gx").holds_in, WORLD)
        self.tells(NoTable("g"), le("gx", "fz").holds_in, WORLD)
        self.tells(NoPlace("z"), lt("x", "fz").holds_in, WORLD)
        self.tells(NoTable("F"), lt("x", "Fx").holds_in, WORLD)


class TestTale(DialCase):

    def test_tails(self):
        self.assertEqual(Tale(le("fgx", "y"), words=["hy", "gx"]).tail_list(),
                         ["x", "y", "gx", "hy", "fgx"])
        self.assertEqual(Tale().tail_list(), [])
        self.assertEqual(Tale(words=("Aax",)).tail_list(), ["x", "ax", "Aax"])

    def test_words_besides_are_looked_at(self):
        self.tells(BadWord("f"), Tale, le("x", "y"), words=["x", "f", "g"])
        self.tells(BadWord("xx"), Tale.listed, [], ["xx"])

    def test_order_and_number(self):
        rows = [le("x", "y"), lt("fx", "x"), le("x", "y")]
        for tale in (Tale(*rows), Tale.listed(rows), Tale.listed(tuple(rows), words=("x",))):
            self.assertEqual(list(tale), rows)
            self.assertEqual(len(tale), 3)
        self.assertEqual((len(Tale()), list(Tale())), (0, []))

    def test_told(self):
        tale = Tale(le("x", "y"), words=["gz"])
        more = tale.told(lt("fx", "y"))
        self.assertEqual([one.written() for one in more], ["x <= y", "fx < y"])
        self.assertEqual(more.tail_list(), ["x", "y", "z", "fx", "gz"])
        self.assertEqual((len(tale), tale.tail_list()), (1, ["x", "y", "z", "gz"]))

    def test_without_keeps_the_tails(self):
        tale = Tale(le("fx", "y"), lt("y", "z"), le("fx", "y"), words=["hx"])
        for at, left in [(0, ["y < z", "fx <= y"]), (1, ["fx <= y", "fx <= y"]),
                         (2, ["fx <= y", "y < z"])]:
            part = tale.without(at)
            self.assertEqual([one.written() for one in part], left)
            self.assertEqual(part.tail_list(), tale.tail_list())
        self.assertEqual(Tale(le("fx", "y")).without(0).tail_list(), ["x", "y", "fx"])
        self.assertEqual(len(tale), 3)

    def test_sum(self):
        one = Tale(le("x", "y"), words=["fx"])
        other = Tale(lt("z", "y"), le("x", "y"), words=["gu"])
        both = one + other
        self.assertEqual([row.written() for row in both], ["x <= y", "z < y", "x <= y"])
        self.assertEqual(both.tail_list(), ["u", "x", "y", "z", "fx", "gu"])
        self.assertEqual((len(one), len(other)), (1, 2))
        self.assertEqual((one.tail_list(), other.tail_list()),
                         (["x", "y", "fx"], ["u", "x", "y", "z", "gu"]))

    def test_borne(self):
        self.assertIs(Tale().borne_by(WORLD), True)
        self.assertIs(Tale(le("x", "fx"), lt("x", "y")).borne_by(WORLD), True)
        self.assertIs(Tale(le("x", "fx"), lt("y", "x")).borne_by(WORLD), False)
        self.assertIs(Tale(lt("x", "x"), words=["kz"]).borne_by(WORLD), False)

    def test_all_comparisons_are_looked_at(self):
        tale = Tale(lt("y", "x"), le("x", "kx"), le("z", "x"))
        self.tells(NoTable("k"), tale.borne_by, WORLD)
        self.tells(NoPlace("z"), Tale(lt("y", "x"), le("z", "kx")).borne_by, WORLD)

    def test_what_is_handed_in_is_copied(self):
        rows, words = [le("x", "y")], ["fx"]
        tale = Tale.listed(rows, words)
        rows.append(lt("z", "y"))
        words.append("gz")
        self.assertEqual((len(tale), tale.tail_list()), (1, ["x", "y", "fx"]))
        tale.tail_list().append("z")
        self.assertEqual(tale.tail_list(), ["x", "y", "fx"])


if __name__ == "__main__":
    unittest.main()
