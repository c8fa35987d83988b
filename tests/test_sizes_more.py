"""Strict worlds, codes, readings and desks at the greatest sizes that are let."""

import random
import time
import unittest

from brute import refuted_by
from helpers import DialCase
from test_sizes import DEEP, FREE, RING, SECONDS, WIDE, WOVEN, crossing
from unseendials.blocks import block_world, labels_world, plain_world, points_world
from unseendials.claims import Claim
from unseendials.codes import code_labels, code_points, code_three, code_two
from unseendials.comparisons import Tale, le, lt
from unseendials.completions import greatest_world, least_world
from unseendials.desk import Desk
from unseendials.errors import BadSteps, Clash, DialError, OverRoom, Refused, TooLarge
from unseendials.facts import Facts
from unseendials.headorders import head_order
from unseendials.knots import KnotWorld, knot_world
from unseendials.papers import is_paper, thin_paper
from unseendials.rankings import Ranking
from unseendials.readings import greatest_value, least_value, shown_steps, walk_rows
from unseendials.refining import refine
from unseendials.runsof import fewest_readings, floor_readings
from unseendials.sketches import Sketch
from unseendials.stacks import one_for_all, stack_list, sub_world
from unseendials.strictly import strict_failing, strictly_decide, strictly_follows
from unseendials.strictness import is_strict, walk_strict
from unseendials.terms import word_term
from unseendials.trials import what_if
from unseendials.twodials import two_ranking
from unseendials.weighing import count_holding, count_worlds
from unseendials.words import tail_set
from unseendials.worlds import World

DIALS = "abcdefghijklmnopqrst"


def some_table(luck, steps):
    return sorted(luck.choices(range(steps), k=steps))


class SizeCase(DialCase):

    def setUp(self):
        self.began = time.perf_counter()

    def tearDown(self):
        self.assertLess(time.perf_counter() - self.began, SECONDS)


class TestStrictSizes(SizeCase):

    def test_deciding(self):
        for words in (FREE, WIDE, DEEP):
            for facts in (None, WOVEN, RING):
                self.assertIsInstance(strictly_decide(Tale(words=words), facts), KnotWorld)
                self.assertIs(strictly_follows(Tale(words=words), le("x", words[-1]), facts), False)

    def test_crossed_tales(self):
        rows = crossing("f", "g", "x", "y") + crossing("h", "k", "y", "z") + crossing("l", "m", "z", "x")
        tale = Tale.listed([one for one in rows], ["u"])
        self.assertTrue(refuted_by(strictly_decide(tale), tale, Facts(), strict=True, tidy=True))
        weak = Tale.listed([le(one.first, one.second) for one in rows], ["u"])
        self.assertIsInstance(strictly_decide(weak), KnotWorld)

    def test_refining_many_words(self):
        luck = random.Random(1)
        for facts in (None, RING):
            table = some_table(luck, 60)
            tables = {dial: table if facts is RING else some_table(luck, 60) for dial in DIALS}
            world = World(60, {point: luck.randrange(60) for point in "xyz"}, tables, facts)
            words = []
            while len(tail_set(words)) < 370:
                words.append("".join(luck.choices("abfg", k=luck.randint(5, 39))) + luck.choice("xyz"))
            ranking = Ranking.of_world(words, world)
            parted = refine(ranking, facts)
            self.assertIs(is_strict(parted, facts), True)
            self.assertGreater(len(parted), len(ranking))

    def test_all_strict_rankings_of_six_words(self):
        self.assertEqual(len(list(walk_strict(list("uvwxyz"), WOVEN))), 4683)
        self.assertGreater(len(list(walk_strict(["fx", "fy", "fz"], WOVEN))), 12)

    def test_twenty_four_knots(self):
        world = knot_world(Ranking([["f" * many + "x"] for many in range(24)]), WOVEN)
        self.assertEqual(world("f" * 23 + "x"), (23, 1))
        luck = random.Random(2)
        tables = {dial: sorted(luck.sample(range(-10 ** 17, 10 ** 17), 24)) for dial in "fghk"}
        world = KnotWorld(24, {"x": 5, "y": 20}, tables)
        number = world("fghk" * 9 + "fghx")
        for dial in "fghk" * 9 + "fgh":
            number = world.taken_back(dial, number)
        self.assertEqual(number, (5, 1))

    def test_head_orders(self):
        claim = Claim.saying(["f" * 15 + "x"], ["f" * 15 + "y", "f" * 14 + "x"])
        self.assertEqual(sum(map(len, head_order(claim))), 16)
        self.assertIsNotNone(head_order(Claim.saying(FREE[:8], FREE[8:]), WOVEN))
        crossed = Claim([("u", ["fx", "gy"], ["fy", "gx"]), ("v", ["hy", "kz"], ["hz", "ky"])])
        self.assertIsNone(head_order(crossed))

    def test_strict_failing(self):
        self.assertIsNotNone(strict_failing(Claim.saying(FREE[:8], FREE[8:]), WOVEN))
        self.assertIsNone(strict_failing(Claim.saying(FREE[:8], FREE[7:]), WOVEN))


class TestCodeSizes(SizeCase):

    def test_long_claims(self):
        words = ["abcd", "dcba", "dddd", "aaaa", "abab", "cdcd", "bdac", "acbd"]
        claim = Claim.saying([word + "x" for word in words], [word + "y" for word in words])
        self.assertEqual(len(code_two(claim).claim.word_list()), 16)
        self.assertEqual(len(code_three(claim).claim.word_list()), 16)
        luck = random.Random(3)
        tables = {dial: sorted(luck.sample(range(-10 ** 17, 10 ** 17), 24)) for dial in "abcd"}
        ranking = two_ranking(claim, KnotWorld(24, {"x": 3, "y": 20}, tables))
        self.assertEqual(ranking.word_list(), tail_set(code_two(claim).claim.word_list()))
        self.assertIs(is_strict(ranking), True)

    def test_worlds_of_sixty_steps(self):
        claim = Claim.named(u=(["fx"], ["gy"]), v=(["fgx"], ["x"]))
        world = World(60, {"x": 59, "y": 3}, {"f": [59] * 60, "g": list(range(60))})
        there = points_world(world, code_points(claim))
        self.assertEqual(plain_world(there, code_points(claim)), world)
        there = labels_world(world, claim, code_labels(claim))
        self.assertEqual(plain_world(there, code_labels(claim)), world)
        three = code_three(claim)
        self.assertEqual(block_world(World.still(19, {}, "f", "g"), three).steps, 59)
        self.tells(BadSteps(182), block_world, world, three)

    def test_six_claims_for_one_chain(self):
        claims = [Claim.of(le("fgx", "gfx")), Claim.saying(WIDE[:6], WIDE[6:]),
                  Claim.saying(FREE[:8], FREE[7:]), Claim.of(le("x", "fx"), le("fx", "ffx")),
                  Claim.saying(["fx", "gy"], ["x", "y"]), Claim.saying([], DEEP)]
        world, rows = one_for_all(claims, WOVEN)
        for claim, places in zip(claims, rows):
            if places is not None:
                self.assertIs(claim.holds_in(world.placed(places)), False)

    def test_stacks_of_sixty(self):
        whole, firsts = stack_list([World.still(1, {}, *DIALS)] * 60)
        self.assertEqual(firsts, list(range(60)))
        self.assertEqual(sub_world(whole, list(range(0, 60, 2))).steps, 30)


class TestReadingSizes(SizeCase):

    def test_five_thousand_rows_of_many_words(self):
        sketch = Sketch(50, places={"x": 5, "y": 7})
        sketch.read("h", 0, 48)
        for at in range(0, 50, 7):
            sketch.read("k", at, at)
        for at in range(50):
            sketch.read("l", at, at)
        words = ["l" * 18 + "fx", "gy", "hx"]
        self.assertEqual(len(tail_set(words)), 23)
        self.assertEqual(len(list(walk_rows(words, sketch))), 5000)
        claim = Claim.saying(["l" * 18 + "fx"], ["gy", "hx"])
        number = count_holding(claim, sketch, ["f", "g", "h", "l", "k"])
        self.assertTrue(0 < number < count_worlds(sketch, list("fghlk")))

    def test_counting_in_a_great_lot(self):
        facts = Facts(("f", "g"), ("1", "k"))
        sketch = Sketch(60, facts, places={point: 4 + 9 * at for at, point in enumerate("uvwxyz")})
        for at in [*range(0, 60, 12), 59]:
            for dial in "fg":
                try:
                    sketch.read(dial, at, at)
                except Clash:
                    pass
        words = ["fx", "gx", "ffx", "gy"]
        self.assertGreater(len(list(walk_rows(words, sketch))), 4000)
        claim = Claim.saying(words[:2], words[2:])
        number = count_holding(claim, sketch, ["f", "g", "h"])
        self.assertTrue(0 < number <= count_worlds(sketch, ["f", "g", "h"]))
        paired = Sketch(60, Facts(("a", "b"), paired="ab"), places={"x": 30, "y": 9})
        for at in [*range(0, 60, 12), 59]:
            paired.read("a", at, at)
            paired.read("B", at, at)
        claim = Claim.named(u=(["aBx"], ["bAx"]), v=(["x"], ["y"]))
        self.assertGreater(count_holding(claim, paired, ["a", "b"]), 0)

    def test_all_dials_counted(self):
        chain = Facts(*zip(DIALS, DIALS[1:]))
        sketch = Sketch(2, chain)
        for dial in DIALS[7:]:
            sketch.read(dial, 0, 1)
        self.assertEqual(count_worlds(sketch, list(DIALS)), sum(range(1, 9)))
        self.assertEqual(count_worlds(Sketch(60), list(DIALS)), count_worlds(Sketch(60), ["f"]) ** 20)

    def test_papers_of_many_entries(self):
        luck = random.Random(4)
        table = some_table(luck, 60)
        world = World(60, {"x": 30}, {dial: table for dial in DIALS}, RING)
        entries = [(dial, at, shown) for dial in DIALS for at, shown in enumerate(table)]
        entries = luck.sample(entries, 400)
        word = DIALS + DIALS[1:] + "x"
        thin = thin_paper(entries, word, world)
        self.assertTrue(thin is None or is_paper(thin, word, world))
        world = World(60, {"x": 30}, {dial: some_table(luck, 60) for dial in DIALS})
        thin = thin_paper([(dial, at, shown) for dial in DIALS[:6]
                           for at, shown in enumerate(world.table_of(dial))], "abcdefx", world)
        self.assertLessEqual(len(fewest_readings("abcdefx", world)), len(thin))
        self.assertLessEqual(len(fewest_readings(DIALS + "x", world)), 20)
        self.assertLessEqual(len(floor_readings(DIALS + "x", world)), 20)

    def test_values_on_sixty_steps(self):
        sketch = Sketch(60, WOVEN, places={"x": 30})
        for at in range(0, 60, 3):
            sketch.read("g", at, 59)
        term = (word_term("f" * 39 + "x") | word_term("gfx")) & word_term("hkx")
        self.assertLessEqual(least_value(term, sketch), greatest_value(term, sketch))
        self.assertEqual(least_world(sketch).table_of("g"), greatest_world(sketch).table_of("g"))
        self.assertEqual(shown_steps("gkx", sketch), [59])


class TestDeskSizes(SizeCase):

    def test_full_desks(self):
        for strict in (False, True):
            for words, facts in [(FREE, WOVEN), (WIDE, None), (DEEP, None), (FREE, RING)]:
                desk = Desk(facts, strict=strict)
                tails = tail_set(words)
                for at in range(12):
                    desk.tell(le(tails[at], tails[at + 3]))
                self.tells(OverRoom(12), desk.tell, le("x", "x"))
                claim = Claim.saying(tails[:8], tails[8:])
                self.assertEqual(desk.ask(claim).verdict, "sure")
                claim = Claim.saying(tails[8:], tails[:8])
                if desk.ask(claim).verdict == "open":
                    self.assertGreater(len(desk.deciders(claim)), 0)
                self.assertIsNotNone(desk.bearer())
                self.assertIn(what_if(desk, claim, undone=6, telling=[le(tails[-1], tails[0])]),
                              ("sure", "open", "never"))

    def test_long_blames(self):
        for strict in (False, True):
            desk = Desk(strict=strict)
            for one, other in zip(FREE[:12], FREE[1:13]):
                desk.tell(lt(one, other))
            desk.undo()
            with self.assertRaises(Refused) as caught:
                desk.tell(lt(FREE[11], FREE[0]))
            self.assertEqual(len(caught.exception.blame), 11)

    def test_crossed_tells(self):
        rows = crossing("f", "g", "x", "y") + crossing("h", "k", "y", "z") + crossing("l", "m", "z", "x")
        desk = Desk()
        for one in rows[:-1]:
            desk.tell(one)
        with self.assertRaises(Refused) as caught:
            desk.tell(rows[-1])
        self.assertEqual(caught.exception.blame, tuple(rows[:-1]))
        self.assertEqual(desk.ask(Claim.of(le("lz", "mx"))).verdict, "sure")
        self.assertEqual(desk.ask(Claim.of(le("z", "x"))).verdict, "sure")
        self.assertEqual(desk.ask(Claim.of(le("mx", "lz"))).verdict, "never")

    def test_never_with_many_pairs(self):
        desk = Desk()
        for word in FREE[:6]:
            desk.tell(lt(word, "x"))
        for word in FREE[6:12]:
            desk.tell(lt("x", word))
        answer = desk.ask(Claim.saying(FREE[6:12], FREE[:6]))
        self.assertEqual((answer.verdict, len(answer.told_by)), ("never", 36))


class TestNothingChanges(DialCase):

    def test_calls_that_raise(self):
        sketch = Sketch(3, Facts(("f", "g")), places={"x": 1})
        sketch.read("f", 0, 1)
        claim = Claim.of(le("fx", "hz"))
        desk = Desk()
        desk.tell(lt("x", "y"))
        world = World(3, {"x": 1}, {"f": [0, 1, 1]})
        dials, entries = ["g", "x"], [("f", 0, 0), ("f", 0, 1)]
        for call in (lambda: count_worlds(sketch, dials), lambda: count_holding(claim, sketch, dials),
                     lambda: list(walk_rows(["fz"], sketch)), lambda: shown_steps("fz", sketch),
                     lambda: least_value(word_term("fz"), sketch), lambda: thin_paper(entries, "fx", world),
                     lambda: desk.tell(lt("y", "x")), lambda: desk.ask(Claim.of(le("Fx", "x"))),
                     lambda: desk.deciders(Claim.of(le("x", "y"))), lambda: sub_world(world, [0, 2]),
                     lambda: one_for_all([claim] * 7), lambda: fewest_readings("ffx", world),
                     lambda: refine(Ranking([["x"], ["y"], ["fy"], ["fx"]])),
                     lambda: what_if(desk, claim, undone=2), lambda: desk.set_room(0)):
            self.assertRaises(DialError, call)
        self.assertEqual((sketch.entry_list(), dials), ([("f", 0, 1)], ["g", "x"]))
        self.assertEqual(entries, [("f", 0, 0), ("f", 0, 1)])
        self.assertEqual((desk.log_lines(), desk.room), (["x < y"], 12))
        self.assertEqual(world, World(3, {"x": 1}, {"f": [0, 1, 1]}))

    def test_what_is_handed_in_stays(self):
        sketch = Sketch(3, places={"x": 1})
        dials, words, chosen = ["g", "f", "g"], ["fx", "x", "fx"], [0, 1]
        count_worlds(sketch, dials)
        list(walk_rows(words, sketch))
        sub_world(World.still(3, {}), chosen)
        claims, telling = [Claim.of(le("x", "fx"))], [lt("x", "y")]
        one_for_all(claims)
        what_if(Desk(), claims[0], telling=telling)
        self.assertEqual((dials, words, chosen), (["g", "f", "g"], ["fx", "x", "fx"], [0, 1]))
        self.assertEqual((claims, telling), ([Claim.of(le("x", "fx"))], [lt("x", "y")]))
        self.assertEqual(len(sketch), 0)
        numbers = [1, 2]
        KnotWorld(2, {}, {"f": numbers}).knot_table("f").clear()
        self.assertEqual(numbers, [1, 2])

    def test_what_is_handed_out_is_new(self):
        order = head_order(Claim.saying(["fx"], ["x"]))
        order[0].clear()
        self.assertEqual(head_order(Claim.saying(["fx"], ["x"])), [[("u", "")], [("u", "f")]])
        world, rows = one_for_all([Claim.of(le("x", "fx"))])
        rows[0].clear()
        self.assertEqual(list(one_for_all([Claim.of(le("x", "fx"))])[1][0]), ["x"])
        self.tells(TooLarge("claims"), one_for_all, [Claim.of(le("x", "x"))] * 7)


if __name__ == "__main__":
    unittest.main()
