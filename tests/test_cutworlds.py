"""Cut worlds: points [78], [79] and [80]."""

import itertools
import random
import unittest

from brute import keeps_told, some_claims, some_worlds, value_in
from helpers import SOME_FACTS, DialCase, back_of
from unseendials.claims import Claim
from unseendials.cutworlds import cut_world, failing_numbers, point_numbers
from unseendials.errors import BadPlace, BadSteps, NoPlace, NoTable
from unseendials.facts import Facts
from unseendials.mirror import backward_head, mirror_claim
from unseendials.worlds import World


def worlds_of(facts, seed, many=6):
    dials = "f" if facts.paired else "fg"
    return some_worlds(seed, many, facts, dials, "xy")


class TestCutWorld(DialCase):

    def test_tables_and_places(self):
        luck = random.Random(1)
        for facts in SOME_FACTS:
            for world in worlds_of(facts, 2):
                many = world.steps
                numbers = {label: luck.randint(0, many) for label in luck.sample("uvwxyz", 2)}
                cut = cut_world(world, numbers)
                self.assertEqual((cut.steps, cut.facts), (many + 1, facts.mirrored()))
                self.assertTrue(keeps_told(cut, facts.mirrored()))
                self.assertEqual(cut.dial_list(), world.dial_list())
                self.assertEqual(cut.point_list(), sorted(numbers))
                for label, number in numbers.items():
                    self.assertEqual(cut.place_of(label), many - number)
                for dial in world.dial_list():
                    table = world.table_of(dial)
                    tables = [table, back_of(table)] if dial in facts.paired else [table, None]
                    shown = [cut.table_of(dial), None]
                    if dial in facts.paired:
                        tables, shown[1] = tables[::-1], cut.table_of(dial.upper())
                    for one, other in zip(tables, shown):
                        if one is not None:
                            least = [min([c for c in range(many) if one[c] >= j], default=many)
                                     for j in range(many + 1)]
                            self.assertEqual(other, [many - least[many - s] for s in range(many + 1)])

    def test_heads_backwards(self):
        for facts in SOME_FACTS:
            heads = ["", "f", "fa", "Af", "aAf", "aa"] if facts.paired else ["", "f", "fg", "gf", "ffg"]
            for world in worlds_of(facts, 3, 4):
                cut, many = cut_world(world, {}), world.steps
                for head in heads:
                    table = world.head_table(head)
                    back = cut.head_table(backward_head(head, facts))
                    for c, j in itertools.product(range(many), range(many + 1)):
                        self.assertEqual(table[c] >= j, back[many - j] >= many - c)

    def test_example(self):
        world = World(4, {'x': 0}, {'f': [0, 3, 3, 3], 'g': [1, 1, 1, 1]})
        cut = cut_world(world, {'u': 3})
        self.assertEqual([cut.place_of('u'), cut.table_of('f'), cut.table_of('g')],
                         [1, [0, 3, 3, 3, 4], [0, 0, 0, 4, 4]])
        self.assertEqual(world.point_list(), ["x"])

    def test_errors_in_order(self):
        world = World.still(60, {}, "f")
        self.tells(BadPlace("a", 0), cut_world, world, {"u": 60, "a": 0, "v": 61})
        self.tells(BadPlace("v", 61), cut_world, world, {"u": 0, "v": 61, "": 1})
        self.tells(BadPlace("v", -1), cut_world, world, {"v": -1})
        self.tells(BadSteps(61), cut_world, world, {"u": 60})
        self.tells(BadSteps(61), cut_world, world, {})
        self.assertEqual(cut_world(World.still(59, {}, "f"), {}).table_of("f"), list(range(60)))

    def test_numbers_are_copied(self):
        numbers = {"u": 1}
        cut = cut_world(World(2, {}, {}), numbers)
        numbers["u"] = 0
        self.assertEqual((cut.place_of("u"), cut.dial_list()), (1, []))


class TestTwice(DialCase):

    def test_cut_world_of_a_cut_world(self):
        luck = random.Random(4)
        for facts in SOME_FACTS:
            for world in worlds_of(facts, 5):
                many = world.steps
                first = cut_world(world, {label: luck.randint(0, many) for label in "uv"})
                last = cut_world(first, point_numbers(world))
                self.assertEqual((last.steps, last.facts), (many + 2, facts))
                self.assertEqual(last.point_list(), world.point_list())
                for dial in world.dial_list():
                    table = [0, *[shown + 1 for shown in world.table_of(dial)], many + 1]
                    self.assertEqual(last.table_of(dial), table)
                for point in world.point_list():
                    self.assertEqual(last.place_of(point), world.place_of(point) + 1)

    def test_point_numbers(self):
        world = World(5, {"z": 4, "x": 0, "u": 2}, {})
        self.assertEqual(list(point_numbers(world).items()), [("u", 3), ("x", 5), ("z", 1)])
        self.assertEqual(point_numbers(World(1, {}, {})), {})


class TestFailingNumbers(DialCase):

    def words_for(self, facts):
        return ["x", "y", "fx", "fy", "ax", "Ay", "fAx"] if facts.paired else \
            ["x", "y", "fx", "gy", "fgx", "gfx"]

    def test_two_say_the_same(self):
        met = {True: 0, False: 0}
        for facts in SOME_FACTS:
            for claim in some_claims(6, 4, self.words_for(facts), 14):
                mirror = mirror_claim(claim, facts)
                for world in worlds_of(facts, 7, 4):
                    many, labels = world.steps, claim.label_list()
                    places = {point: world.place_of(point) for point in claim.point_list()}
                    for numbers in itertools.product(range(many + 1), repeat=len(labels)):
                        told = dict(zip(labels, numbers))
                        cut = cut_world(world, told)
                        one = self.parted(claim, world, told)
                        other = self.parted(mirror, cut, {x: many - places[x] for x in places})
                        self.assertEqual(one, other)
                        met[one] += 1
        self.assertGreater(min(met.values()), 100)

    @staticmethod
    def parted(claim, world, numbers):
        return all(all(value_in(world, word) >= numbers[label] for word in claim.side_of(label)[0])
                   and all(value_in(world, word) < numbers[label] for word in claim.side_of(label)[1])
                   for label in claim.label_list())

    def test_least_value_of_u(self):
        failed = 0
        for facts in SOME_FACTS:
            for claim in some_claims(8, 8, self.words_for(facts), 14):
                mirror = mirror_claim(claim, facts)
                for world in worlds_of(facts, 9, 4):
                    numbers = failing_numbers(claim, world)
                    self.assertEqual(numbers is None, claim.holds_in(world))
                    if numbers is None:
                        continue
                    failed += 1
                    self.assertEqual(list(numbers), claim.label_list())
                    for label, number in numbers.items():
                        values = [value_in(world, word) for word in claim.side_of(label)[0]]
                        self.assertEqual(number, min(values, default=world.steps))
                    self.assertIs(mirror.holds_in(cut_world(world, numbers)), False)
        self.assertGreater(failed, 50)

    def test_example_and_empty_side(self):
        claim = Claim.named(u=(['fgx'], ['y', 'gx']), v=(['y'], ['fx']))
        world = World(4, {'x': 0, 'y': 2}, {'f': [0, 3, 3, 3], 'g': [1, 1, 1, 1]})
        self.assertEqual(failing_numbers(claim, world), {'u': 3, 'v': 2})
        self.assertEqual(failing_numbers(Claim.named(z=([], ["x"]), u=(["y"], [])), world),
                         {"u": 2, "z": 4})

    def test_all_words_are_asked(self):
        world = World(2, {"x": 0}, {"f": [0, 1]})
        claim = Claim.named(u=(["x"], ["x"]), v=(["gx"], ["z"]))
        self.tells(NoPlace("z"), failing_numbers, claim, world)
        self.tells(NoTable("g"), failing_numbers, Claim.named(u=(["x"], ["x", "gx"])), world)

    def test_facts_of_the_cut_world(self):
        facts = Facts(("1", "a"), ("f", "1"), paired="a")
        world = World(2, {}, {"a": [0, 1], "f": [0, 0]}, facts)
        self.assertEqual(list(cut_world(world, {}).facts), [("a", "1"), ("f", "1")])


if __name__ == "__main__":
    unittest.main()
