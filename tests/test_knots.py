"""Strict worlds and their knots: points [94], [95] and [96]."""

import random
import unittest
from fractions import Fraction

from brute import PLAIN_FACTS
from helpers import DialCase
from strictbrute import (fraction_of, is_number, keeps_at_knots, knot_value, shown_at,
                         taken_back_at)
from unseendials.errors import (BadPlace, BadSteps, BadTable, BadWord, BrokenFact, NoPairs, NoPlace,
                                NotKept, NotPaired, NoTable, TooLarge)
from unseendials.facts import Facts
from unseendials.knots import KnotWorld, knot_world
from unseendials.rankings import Ranking
from unseendials.strictness import walk_strict
from unseendials.words import dials_of, points_of


def some_knot_worlds(seed, many, dials="fg", points="xy"):
    luck = random.Random(seed)
    worlds = []
    for _ in range(many):
        knots = luck.randint(1, 5)
        tables = {dial: sorted(luck.sample(range(-20, 40), knots)) for dial in dials}
        worlds.append(KnotWorld(knots, {point: luck.randrange(knots) for point in points}, tables))
    return worlds


class TestKnotWorld(DialCase):

    def test_what_is_shown_and_taken_back(self):
        luck = random.Random(1)
        for world in some_knot_worlds(2, 30):
            table = world.knot_table("f")
            numbers = [Fraction(at) for at in range(-2, world.knots + 2)]
            numbers += [Fraction(luck.randint(-60, 90), luck.randint(1, 12)) for _ in range(20)]
            shown = []
            for number in numbers:
                told = world.show("f", (number.numerator, number.denominator))
                self.assertTrue(is_number(told))
                self.assertEqual(fraction_of(told), shown_at(table, number))
                self.assertEqual(world.taken_back("f", told), (number.numerator, number.denominator))
                self.assertEqual(taken_back_at(table, fraction_of(told)), number)
                shown.append((number, fraction_of(told)))
            shown.sort()
            self.assertEqual(shown, sorted(shown, key=lambda pair: pair[1]))

    def test_at_knots_between_them_and_outside(self):
        world = KnotWorld(3, {}, {"f": [-1, 4, 6]})
        for number, told in [((0, 1), (-1, 4)), ((1, 1), (1, 1)), ((2, 1), (3, 2)), ((1, 2), (3, 8)),
                             ((3, 2), (5, 4)), ((-1, 1), (-5, 4)), ((-1, 3), (-7, 12)), ((4, 1), (7, 2)),
                             ((5, 2), (2, 1)), ((1, 5), (0, 1))]:
            self.assertEqual(world.show("f", number), told)
            self.assertEqual(world.taken_back("f", told), number)

    def test_one_knot(self):
        world = KnotWorld(1, {"x": 0}, {"f": [3]})
        self.assertEqual([world.show("f", (0, 1)), world.show("f", (-2, 1)), world.show("f", (1, 3))],
                         [(3, 2), (-1, 2), (11, 6)])
        self.assertEqual([world("x"), world("fx"), world("ffx")], [(0, 1), (3, 2), (3, 1)])

    def test_values_of_words(self):
        for world in some_knot_worlds(3, 20):
            for word in ["x", "y", "fx", "gfy", "ffggx", "fgfgfgfgy"]:
                self.assertTrue(is_number(world(word)))
                self.assertEqual(fraction_of(world(word)), knot_value(world, word))

    def test_lists_and_properties(self):
        facts = Facts(("f", "g"))
        world = KnotWorld(2, {"y": 1, "x": 0}, {"g": (1, 5), "f": [0, 1]}, facts)
        self.assertEqual((world.knots, world.facts), (2, facts))
        self.assertEqual((world.point_list(), world.dial_list()), (["x", "y"], ["f", "g"]))
        self.assertEqual((world.knot_of("y"), world.knot_table("g")), (1, [1, 5]))
        self.assertEqual(KnotWorld(1, {}, {}).facts, Facts())
        self.assertEqual(KnotWorld.MOST, 24)

    def test_what_is_handed_in_and_out_is_copied(self):
        places, tables = {"x": 0}, {"f": [1, 2]}
        world = KnotWorld(2, places, tables)
        places["x"], tables["f"][0] = 1, -5
        world.knot_table("f").append(9)
        world.point_list().append("y")
        self.assertEqual((world.knot_of("x"), world.knot_table("f")), (0, [1, 2]))
        self.assertEqual(world.point_list(), ["x"])

    def test_the_facts_hold_at_each_number(self):
        luck = random.Random(6)
        facts = Facts(("f", "g"), ("1", "g"), ("h", "1"))
        for _ in range(20):
            knots = luck.randint(1, 4)
            low = sorted(luck.sample(range(-9, 9 * knots), knots))
            high = [max(shown + luck.randint(0, 1), (knots + 1) * at) for at, shown in enumerate(low)]
            under = [min((knots + 1) * at, shown) for at, shown in enumerate(low)]
            try:
                world = KnotWorld(knots, {}, {"f": low, "g": high, "h": under}, facts)
            except BadTable:
                continue
            for _ in range(30):
                number = Fraction(luck.randint(-40, 80), luck.randint(1, 7))
                shown = {dial: shown_at(world.knot_table(dial), number) for dial in "fgh"}
                self.assertTrue(shown["f"] <= shown["g"] >= number >= shown["h"])

    def test_errors_of_the_class_in_order(self):
        facts = Facts(("f", "g"), paired="ba")
        for many in (0, 25, -1):
            self.tells(BadSteps(many), KnotWorld, many, {"a": 0}, {"x": []})
        self.assertEqual(KnotWorld(24, {}, {}).knots, 24)
        self.tells(BadPlace("y", 2), KnotWorld, 2, {"x": 0, "y": 2, "a": 0}, {"A": [1, 2]}, facts)
        self.tells(BadPlace("a", 0), KnotWorld, 2, {"x": 0, "a": 0}, {"A": [1, 2]}, facts)
        self.tells(BadPlace("x", -1), KnotWorld, 2, {"x": -1}, {})
        self.tells(BadTable("A"), KnotWorld, 2, {}, {"f": [1, 2], "A": [1, 2], "g": []}, facts)
        self.tells(BadTable("g"), KnotWorld, 2, {}, {"f": [1, 2], "g": [2, 2]}, facts)
        self.tells(BadTable("g"), KnotWorld, 2, {}, {"g": [1, 2, 3]})
        self.tells(BadTable("1"), KnotWorld, 2, {}, {"1": [0, 3]})
        self.tells(NoPairs("a"), KnotWorld, 2, {}, {"f": [1, 2]}, facts)
        facts = Facts(("g", "k"), ("f", "1"), ("f", "g"))
        self.tells(NoTable("k"), KnotWorld, 2, {}, {"f": [1, 9], "g": [1, 2]}, facts)
        tables = {"f": [0, 4], "g": [0, 3], "k": [0, 4]}
        self.tells(BrokenFact("f", "1", 1), KnotWorld, 2, {}, tables, facts)
        tables = {"f": [0, 3], "g": [0, 2], "k": [0, 1]}
        self.tells(BrokenFact("g", "k", 1), KnotWorld, 2, {}, tables, facts)
        self.tells(BrokenFact("1", "f", 0), KnotWorld, 2, {}, {"f": [-1, 9]}, Facts(("1", "f")))

    def test_errors_of_the_methods(self):
        world = KnotWorld(2, {"x": 0}, {"f": [1, 2]}, Facts(("f", "f")))
        self.tells(NoPlace("y"), world.knot_of, "y")
        for letter in ("1", "g", "F", "x", ""):
            self.tells(NoTable(letter), world.knot_table, letter)
            self.tells(NoTable(letter), world.show, letter, (0, 1))
            self.tells(NoTable(letter), world.taken_back, letter, (0, 1))
        self.tells(BadWord("fxx"), world, "fxx")
        self.tells(BadWord(""), world, "")
        self.tells(NoPlace("y"), world, "gfy")
        self.tells(NoTable("g"), world, "hgfx")
        self.tells(NoTable("F"), world, "hFfx")


class TestKnotsOfRankings(DialCase):

    def test_just_the_tables_of_the_point(self):
        for facts in PLAIN_FACTS + [Facts(("1", "f"), ("f", "1")), Facts(("h", "f"))]:
            for words in [["ffx"], ["fx", "fy"], ["fx", "gy"], ["fgx", "gx"], ["x"], ["gfx", "fx"]]:
                for ranking in walk_strict(words, facts):
                    self.right(ranking, facts)

    def right(self, ranking, facts):
        world = knot_world(ranking, facts)
        k, words = len(ranking), ranking.word_list()
        self.assertEqual((world.knots, world.facts), (k, facts))
        self.assertEqual(world.point_list(), points_of(words))
        self.assertEqual(world.dial_list(), sorted(set(dials_of(words)) | set(facts.dial_list())))
        for b in world.dial_list():
            for c in range(k):
                numbers = [c - (k + 1)] + [(k + 1) * c] * facts.under("1", b)
                for word in words:
                    if len(word) > 1 and facts.under(word[0], b):
                        d, e = ranking.rank_of(word[1:]), ranking.rank_of(word)
                        numbers += [(k + 1) * e + c - d] * (d <= c)
                self.assertEqual(world.knot_table(b)[c], max(numbers))
        self.assertTrue(keeps_at_knots(world, facts))
        for word in words:
            self.assertEqual(knot_value(world, word), ranking.rank_of(word))
            self.assertEqual(world(word), (ranking.rank_of(word), 1))

    def test_rankings_of_strict_worlds_are_strict(self):
        facts = Facts(("f", "g"))
        for world in some_knot_worlds(9, 60):
            higher = [max(pair) for pair in zip(world.knot_table("f"), world.knot_table("g"))]
            tables = {"f": world.knot_table("f"), "g": higher}
            places = {point: world.knot_of(point) for point in "xy"}
            world = KnotWorld(world.knots, places, tables, facts)
            words = ["x", "y", "fx", "gy", "fgy", "gx"]
            values = [knot_value(world, word) for word in words]
            order = sorted(set(values))
            ranking = Ranking.of_ranks(words, [order.index(value) for value in values])
            self.right(ranking, facts)

    def test_example(self):
        parted = Ranking([["x"], ["y"], ["fx"], ["fy"]])
        world = knot_world(parted)
        self.assertEqual([world.knot_table("f"), world("ffx"), world.taken_back("f", (3, 1))],
                         [[10, 15, 16, 17], (16, 5), (1, 1)])
        self.tells(NotKept(5), knot_world, Ranking([["x"], ["y"], ["fx", "fy"]]))

    def test_twenty_four_groups_and_twenty_five(self):
        words = ["f" * many + "x" for many in range(25)]
        ranking = Ranking([[word] for word in words[:24]])
        world = knot_world(ranking)
        self.assertEqual([world(word) for word in words[:24]], [(at, 1) for at in range(24)])
        self.tells(TooLarge("words"), knot_world, Ranking([[word] for word in words]))
        self.tells(TooLarge("words"), knot_world, Ranking([[word] for word in words]), Facts(("f", "1")))
        level = Ranking([words])
        self.assertEqual(knot_world(level).knot_table("f"), [0])

    def test_errors_in_order(self):
        words = ["f" * many + "x" for many in range(25)]
        wide = Ranking([[word] for word in words])
        self.tells(NoPairs("f"), knot_world, wide, Facts(paired="af"))
        self.tells(NoPairs("a"), knot_world, wide, Facts(paired="ba"))
        self.tells(NotPaired("F"), knot_world, Ranking([["Fx"], ["x"], ["ax"]]), Facts(paired="a"))
        self.tells(NotKept(1), knot_world, Ranking([["x"], ["fx"]]), Facts(("f", "1")))
        both = Ranking([["x"], ["y"], ["fx", "fy"], ["gy"], ["gx"]])
        self.tells(NotKept(1), knot_world, both)


if __name__ == "__main__":
    unittest.main()
