"""Worlds of coded claims, there and back: points [107] to [110]."""

import itertools
import random
import unittest

from brute import PAIRED_WORDS, PLAIN_WORDS, keeps_told, some_claims, some_worlds, value_in
from helpers import SOME_FACTS, DialCase
from strictbrute import is_strict_order, knot_value, shown_at, strictly_bears, taken_back_at
from test_codes import coded_word, short_claims
from test_knots import some_knot_worlds
from unseendials.blocks import block_world, labels_world, plain_world, points_world
from unseendials.claims import Claim
from unseendials.codes import Coded, code_labels, code_points, code_three, code_two
from unseendials.comparisons import le
from unseendials.errors import (BadSteps, BrokenFact, NoPlace, NotGrounded, NotPaired, NoTable,
                                TooLarge)
from unseendials.facts import Facts
from unseendials.keeping import keeps
from unseendials.knots import KnotWorld
from unseendials.placing import ranking_world
from unseendials.strictly import strict_failing
from unseendials.sureness import failing_world
from unseendials.twodials import two_ranking
from unseendials.words import dials_of, tail_set
from unseendials.worlds import World


def fails_in(claim, world):
    """Return whether a claim fails in a world, by values that the test reckons."""
    values = {word: value_in(world, word) for word in claim.word_list()}
    return all(values[v] < values[u] for label in claim.label_list()
               for u, v in itertools.product(*claim.side_of(label)))


def claims_and_worlds(seed, many):
    """Return triples of a claim, facts and a world with all points and dials of the claim."""
    rows = []
    for at, facts in enumerate(SOME_FACTS):
        words = [word for word in (PAIRED_WORDS if "a" in facts.paired else PLAIN_WORDS)
                 if "h" not in word]
        dials = "f" if "a" in facts.paired else "fg"
        for claim in some_claims(seed + at, many, words, 12):
            for world in some_worlds(seed + at, 4, facts, dials, "xy"):
                rows.append((claim, facts, world))
    return rows


class TestPoints(DialCase):

    def test_there(self):
        failed = 0
        for claim, facts, world in claims_and_worlds(600, 5):
            coded = code_points(claim, facts)
            there = points_world(world, coded)
            self.assertEqual((there.steps, there.facts), (world.steps, facts))
            self.assertEqual((there.point_list(), there.place_of("u")), (["u"], 0))
            told = dict(coded.told_letters)
            self.assertEqual(there.dial_list(), sorted({*world.dial_list(), *told.values()}))
            for dial in world.dial_list():
                if dial not in told.values():
                    self.assertEqual(there.table_of(dial), world.table_of(dial))
            for point, dial in told.items():
                self.assertEqual(there.table_of(dial), [world.place_of(point)] * world.steps)
            self.assertTrue(keeps_told(there, facts))
            for at in range(world.steps):
                self.assertEqual(fails_in(coded.claim, there.placed({"u": at})), fails_in(claim, world))
            failed += fails_in(claim, world)
        self.assertGreater(failed, 30)

    def test_back(self):
        failed = 0
        for claim, facts, _ in claims_and_worlds(610, 8)[::4]:
            coded = code_points(claim, facts)
            if len(tail_set(coded.claim.word_list())) > 16:
                continue
            world = failing_world(coded.claim, facts)
            if world is None:
                continue
            back = plain_world(world, coded, facts)
            self.assertEqual(back.point_list(), claim.point_list())
            for point, dial in coded.told_letters:
                self.assertEqual(back.place_of(point), value_in(world, dial + "u"))
            fresh = [dial for _, dial in coded.told_letters]
            self.assertEqual(back.dial_list(), [one for one in world.dial_list() if one not in fresh])
            self.assertTrue(fails_in(claim, back))
            failed += 1
        self.assertGreater(failed, 40)

    def test_old_tables_give_way(self):
        coded = code_points(Claim.of(le("fx", "y")))
        self.assertEqual(coded.told_letters, (("x", "a"), ("y", "b")))
        world = World(3, {"y": 2, "x": 1, "z": 0}, {"a": [0, 0, 1], "f": [0, 1, 1]})
        there = points_world(world, coded)
        self.assertEqual([there.table_of(dial) for dial in "abf"], [[1] * 3, [2] * 3, [0, 1, 1]])
        self.assertEqual(world.table_of("a"), [0, 0, 1])

    def test_errors(self):
        coded = code_points(Claim.of(le("fx", "y"), le("z", "x")))
        world = World(2, {"x": 1}, {"a": [0, 1]}, Facts(("a", "1")))
        self.tells(NoPlace("y"), points_world, world, coded)
        world = World(2, {"x": 1, "z": 0, "y": 0}, {"a": [0, 1]}, Facts(("a", "1")))
        self.tells(BrokenFact("a", "1", 0), points_world, world, coded)
        world = World(2, {"x": 1, "z": 0, "y": 0}, {"a": [0, 1]}, Facts(paired="a"))
        self.tells(NotGrounded("a"), points_world, world, coded)
        self.tells(NoPlace("u"), plain_world, World(2, {"x": 1}, {"a": [0, 1]}), coded)
        self.tells(NoTable("b"), plain_world, World(2, {"u": 1}, {"a": [0, 1]}), coded)


class TestLabels(DialCase):

    def test_there(self):
        failed = 0
        for claim, facts, world in claims_and_worlds(620, 5):
            coded = code_labels(claim, facts)
            there = labels_world(world, claim, coded)
            many = 2 if world.steps == 1 else world.steps
            self.assertEqual((there.steps, there.facts), (many, facts))
            for point in "xy":
                self.assertEqual(there.place_of(point), world.place_of(point))
            self.assertEqual(there.point_list(), ["x", "y"])
            for dial in world.dial_list():
                table = [0, 1] if world.steps == 1 else world.table_of(dial)
                if dial not in dict(coded.told_letters).values():
                    self.assertEqual(there.table_of(dial), table)
            for label, dial in coded.told_letters:
                above = [value_in(world, word) for word in claim.side_of(label)[0]]
                table = [(many - 1) * (len(above) > 0 and at >= min(above)) for at in range(many)]
                self.assertEqual(there.table_of(dial), table)
            self.assertTrue(keeps_told(there, facts))
            self.assertTrue(fails_in(coded.claim, there) or not fails_in(claim, world))
            failed += fails_in(claim, world)
        self.assertGreater(failed, 30)

    def test_back(self):
        failed = 0
        for claim, facts, _ in claims_and_worlds(630, 8)[::4]:
            coded = code_labels(claim, facts)
            if len(tail_set(coded.claim.word_list())) > 16:
                continue
            world = failing_world(coded.claim, facts)
            if world is None:
                continue
            self.assertTrue(fails_in(claim, world))
            back = plain_world(world, coded, facts)
            self.assertEqual(back.point_list(), world.point_list())
            fresh = [dial for _, dial in coded.told_letters]
            self.assertEqual(back.dial_list(), [one for one in world.dial_list() if one not in fresh])
            self.assertTrue(fails_in(claim, back))
            failed += 1
        self.assertGreater(failed, 40)

    def test_one_step_and_empty_side(self):
        claim = Claim.named(u=([], ["x"]), v=(["fx"], []))
        coded = code_labels(claim)
        there = labels_world(World(1, {"x": 0, "y": 0}, {"f": [0], "a": [0]}), claim, coded)
        self.assertEqual([there.table_of(dial) for dial in "abf"], [[0, 0], [1, 1], [0, 1]])
        self.assertEqual((there.place_of("x"), there.place_of("y")), (0, 0))
        self.assertTrue(fails_in(coded.claim, there))

    def test_a_world_in_which_the_claim_holds(self):
        claim = Claim.of(le("x", "fx"))
        there = labels_world(World(3, {"x": 1}, {"f": [2, 2, 2]}), claim, code_labels(claim))
        self.assertEqual(there.table_of("a"), [0, 2, 2])

    def test_errors(self):
        claim = Claim.of(le("x", "fy"))
        coded = code_labels(claim)
        self.tells(NoPlace("x"), labels_world, World(2, {}, {"a": [0, 1]}, Facts(("a", "1"))), claim, coded)
        world = World(2, {"x": 0, "y": 0}, {"a": [0, 1]}, Facts(("a", "1")))
        self.tells(NoTable("f"), labels_world, world, claim, coded)
        world = World(2, {"x": 0, "y": 0}, {"a": [0, 1], "f": [0, 1]}, Facts(("a", "1")))
        self.tells(BrokenFact("a", "1", 0), labels_world, world, claim, coded)


class TestThreeDials(DialCase):

    def test_there_and_back_step_by_step(self):
        luck, failed = random.Random(4), 0
        for claim in short_claims(640, 60):
            coded, dials = code_three(claim), dials_of(claim.word_list())
            for steps in (1, 2, 3, 4):
                tables = {dial: sorted(luck.choices(range(steps), k=steps)) for dial in dials}
                world = World(steps, {point: luck.randrange(steps) for point in "uvxyz"}, tables)
                there = self.blocks_are_right(world, coded)
                for word in claim.word_list():
                    self.assertEqual(value_in(there, coded_word(word, dials, 3)),
                                     value_in(world, word) + 1)
                self.assertEqual(fails_in(coded.claim, there), fails_in(claim, world))
                failed += fails_in(claim, world)
                back = plain_world(there, coded)
                self.assertEqual((back.steps, back.facts, back.dial_list()), (there.steps, Facts(), dials))
                for dial in dials:
                    for step in range(steps):
                        self.assertEqual(back.table_of(dial)[step + 1], tables[dial][step] + 1)
                for point in "uvxyz":
                    self.assertEqual(back.place_of(point), there.place_of(point))
                self.assertEqual(fails_in(claim, back), fails_in(claim, world))
        self.assertGreater(failed, 10)

    def blocks_are_right(self, world, coded):
        there = block_world(world, coded)
        n, k = world.steps, len(coded.told_letters)
        last = (k + 1) * n + 1
        self.assertEqual((there.steps, there.dial_list()), (last + 1, ["a", "b", "c"]))
        self.assertEqual((there.facts, there.point_list()), (Facts(), world.point_list()))
        a, b, c = [there.table_of(dial) for dial in "abc"]
        self.assertEqual([a[0], b[0], c[0], a[last], b[last], c[last]], [0, 0, 0, last, last, last])
        for i in range(k + 1):
            for s in range(n):
                at = 1 + i * n + s
                self.assertEqual(a[at], last if i == k else at + n)
                self.assertEqual(c[at], 0 if i == 0 else at - n)
                shown = s if i == 0 else world.table_of(coded.told_letters[i - 1][0])[s]
                self.assertEqual(b[at], 1 + i * n + shown)
        for point in world.point_list():
            self.assertEqual(there.place_of(point), world.place_of(point) + 1)
        return there

    def test_example_and_no_dials(self):
        three = code_three(Claim.saying(["fx"], ["x"]))
        world = block_world(World(2, {"x": 0}, {"f": [1, 1]}), three)
        self.assertEqual([world.table_of("a"), world.table_of("b"), world.table_of("c"), world("cbax")],
                         [[0, 3, 4, 5, 5, 5], [0, 1, 2, 4, 4, 5], [0, 0, 0, 1, 2, 5], 2])
        none = self.blocks_are_right(World(2, {"x": 1}, {"g": [0, 0]}), code_three(Claim.of(le("x", "y"))))
        self.assertEqual(none.table_of("a"), [0, 3, 3, 3])

    def test_back_from_any_world(self):
        failed = 0
        for claim in short_claims(650, 300, 5, 2):
            for code in (code_three, code_two):
                coded = code(claim)
                if len(tail_set(coded.claim.word_list())) <= 16:
                    world = failing_world(coded.claim)
                    if world is not None:
                        back = plain_world(world, coded)
                        self.assertTrue(fails_in(claim, back))
                        self.assertEqual(back.dial_list(), dials_of(claim.word_list()))
                        for dial, text in coded.told_letters:
                            self.assertEqual(back.table_of(dial), world.head_table(text))
                        failed += 1
        self.assertGreater(failed, 50)

    def test_sixty_steps_and_errors(self):
        claim = Claim.of(le("fx", "gx"))
        coded = code_three(claim)
        self.tells(NoTable("f"), block_world, World.still(60, {}, "h"), coded)
        self.tells(NoTable("g"), block_world, World.still(60, {}, "f"), coded)
        self.tells(BadSteps(62), block_world, World.still(20, {}, "f", "g"), coded)
        self.assertEqual(block_world(World.still(19, {}, "f", "g"), coded).steps, 59)
        one = code_three(Claim.of(le("fx", "x")))
        self.assertEqual(block_world(World.still(29, {}, "f"), one).steps, 60)
        self.tells(NoTable("c"), plain_world, World.still(2, {}, "a", "b"), coded)
        self.tells(NoTable("a"), plain_world, World.still(2, {}), coded)
        self.tells(NoTable("b"), plain_world, World.still(2, {}), code_two(claim))

    def test_facts_of_the_plain_world(self):
        coded = code_three(Claim.of(le("fx", "x")))
        world = block_world(World(2, {"x": 0}, {"f": [1, 1]}), coded)
        facts = Facts(("f", "f"))
        self.assertEqual(plain_world(world, coded, facts).facts, facts)
        self.tells(NoTable("g"), plain_world, world, coded, Facts(("g", "g")))
        self.tells(BrokenFact("f", "1", 1), plain_world, world, coded, Facts(("f", "1")))
        points = Coded("points", Claim.of(le("cu", "cu")), (("x", "c"),))
        self.assertEqual(plain_world(world.moved(u=3), points).place_of("x"), 1)


class TestTwoDials(DialCase):

    def right(self, claim, world):
        """Assert that the ranking of a strict world is that of point [110]."""
        dials = dials_of(claim.word_list())
        coded = code_two(claim).claim
        ranking = two_ranking(claim, world)
        words = tail_set(coded.word_list())
        self.assertEqual(ranking.word_list(), words)
        pairs = {}
        for word in words:
            if len(word) == 1:
                pairs[word] = (0, knot_value(world, word))
                continue
            block, number = pairs[word[1:]]
            if word[0] == "b":
                pairs[word] = (block + 1, number)
                continue
            number = shown_at(world.knot_table(dials[block - 1]), number)
            if block > 1:
                number = taken_back_at(world.knot_table(dials[block - 2]), number)
            pairs[word] = (block - 1, number)
        order = sorted(set(pairs.values()))
        self.assertEqual(ranking.rank_list(), [order.index(pairs[word]) for word in words])
        ranks = {word: ranking.rank_of(word) for word in words}
        self.assertTrue(keeps(ranking))
        self.assertTrue(is_strict_order(ranks, Facts()))
        for word in claim.word_list():
            self.assertEqual(pairs[coded_word(word, dials, 2)], (0, knot_value(world, word)))
        return ranking

    def test_rankings_of_strict_worlds(self):
        failed = 0
        for claim in short_claims(660, 60):
            for world in some_knot_worlds(661, 3, dials_of(claim.word_list()), "uvxyz"):
                ranking = self.right(claim, world)
                values = {word: knot_value(world, word) for word in claim.word_list()}
                fails = all(values[v] < values[u] for label in claim.label_list()
                            for u, v in itertools.product(*claim.side_of(label)))
                dials = dials_of(claim.word_list())
                ranks = {word: ranking.rank_of(coded_word(word, dials, 2)) for word in values}
                self.assertEqual(fails, all(
                    ranks[v] < ranks[u] for label in claim.label_list()
                    for u, v in itertools.product(*claim.side_of(label))))
                failed += fails
        self.assertGreater(failed, 15)

    def test_from_a_strict_world_to_a_failing_one(self):
        failed = 0
        for claim in short_claims(670, 120, 7, 3):
            world = strict_failing(claim)
            if world is None:
                continue
            self.assertTrue(strictly_bears(world, claim.denial(), Facts()))
            ranking = self.right(claim, world)
            if len(ranking) > 60:
                continue
            coded = code_two(claim)
            there = ranking_world(ranking)
            self.assertTrue(fails_in(coded.claim, there))
            self.assertTrue(fails_in(claim, plain_world(there, coded)))
            failed += 1
        self.assertGreater(failed, 40)

    def test_errors_in_order(self):
        world = KnotWorld(2, {"x": 0}, {"f": [0, 1]})
        self.tells(NotPaired("F"), two_ranking, Claim.of(le("Fx", "gy")), world)
        self.tells(TooLarge("dials"), two_ranking, Claim.of(le("fghx", "klx"), le("hhhhhx", "y")), world)
        self.tells(TooLarge("letters"), two_ranking, Claim.of(le("hhhhhx", "y")), world)
        self.tells(NoPlace("y"), two_ranking, Claim.of(le("gx", "y")), world)
        self.tells(NoTable("g"), two_ranking, Claim.of(le("gx", "ffy")), world)
        self.tells(NoPlace("y"), two_ranking, Claim.of(le("gx", "fy")), world)
        self.tells(NoTable("h"), two_ranking, Claim.of(le("ghx", "fx")), world)

    def test_no_dials(self):
        world = KnotWorld(2, {"x": 1, "y": 0}, {})
        self.assertEqual(list(two_ranking(Claim.of(le("x", "y")), world)), [("y",), ("x",)])


if __name__ == "__main__":
    unittest.main()
