"""Stacks and chosen steps: points [116] and [117]."""

import itertools
import random
import unittest

from brute import claim_holds, keeps_told, some_claims, some_worlds, value_in
from brute import PAIRED_FACTS, PAIRED_WORDS, PLAIN_FACTS, PLAIN_WORDS
from helpers import SOME_FACTS, DialCase, back_of
from unseendials.claims import Claim
from unseendials.comparisons import le
from unseendials.errors import BadStand, BadSteps, NotPaired, TooLarge, Unlike
from unseendials.facts import Facts
from unseendials.stacks import one_for_all, stack, stack_list, sub_world
from unseendials.sureness import sure
from unseendials.words import dials_of, points_of, tail_set
from unseendials.worlds import World


def tower(many):
    """Return a claim that fails only where x, fx, ffx, .. and a in front of the last all climb."""
    top = "f" * many + "x"
    return Claim.named(u=([top], [top[1:]]), v=(["a" + top], [top]))


class TestStack(DialCase):

    def test_blocks_do_what_the_worlds_did(self):
        luck = random.Random(1)
        for facts in SOME_FACTS:
            words = ["x", "ax", "Ax", "afx", "fAx", "AfAx"] if "a" in facts.paired else \
                ["x", "fx", "gx", "fgfx"]
            for _ in range(6):
                worlds = some_worlds(luck.randrange(99), luck.randint(1, 4), facts, "fg"[:2 - len(facts.paired)],
                                     "x")
                whole, firsts = stack(*worlds)
                self.assertEqual(firsts, [sum(one.steps for one in worlds[:at])
                                          for at in range(len(worlds))])
                self.assertEqual((whole.steps, whole.facts, whole.point_list()),
                                 (sum(one.steps for one in worlds), facts, []))
                self.assertTrue(keeps_told(whole, facts))
                self.assertEqual(whole.dial_list(), worlds[0].dial_list())
                letters = worlds[0].dial_list() + list(facts.paired.upper())
                for first, world in zip(firsts, worlds):
                    for letter in letters:
                        block = whole.table_of(letter)[first:first + world.steps]
                        self.assertEqual(block, [first + at for at in world.table_of(letter)])
                    for word in words:
                        placed = whole.placed({"x": first + world.place_of("x")})
                        if set(dials_of([word])) <= set(world.dial_list()):
                            self.assertEqual(placed(word), first + world(word))

    def test_lists_and_single_worlds(self):
        world = World(3, {"x": 2}, {"f": [0, 0, 1]}, Facts(("f", "1")))
        whole, firsts = stack_list((world,))
        self.assertEqual((whole, firsts), (world.placed({}), [0]))
        self.assertEqual(stack_list([world, world])[1], [0, 3])
        self.assertEqual(stack(world, world)[0], stack_list([world, world])[0])
        same = World(3, {}, {"f": [0, 0, 1]}, Facts(("f", "1"), ("f", "f")))
        self.assertEqual(list(stack(world, same)[0].facts), [("f", "1")])

    def test_errors_in_order(self):
        world = World.still(31, {}, "f")
        self.tells(Unlike(), stack)
        self.tells(Unlike(), stack_list, [])
        self.tells(Unlike(), stack, world, world, World.still(2, {}, "f", "g"))
        self.tells(Unlike(), stack, world, world, World.still(2, {}, "f", facts=Facts(("1", "f"))))
        self.tells(BadSteps(62), stack, world, world)
        self.tells(BadSteps(61), stack_list, [world, World.still(30, {}, "f")])
        self.assertEqual(stack(world, World.still(29, {}, "f"))[0].steps, 60)


class TestSubWorld(DialCase):

    def test_all_parts_of_small_worlds(self):
        met = {True: 0, False: 0}
        for facts in SOME_FACTS:
            words = ["x", "ax", "Ax", "aAx"] if "a" in facts.paired else ["x", "fx", "gfx"]
            for world in some_worlds(3, 6, facts, "f" if facts.paired else "fg", "xy"):
                tables = [world.table_of(dial) for dial in world.dial_list()]
                tables += [back_of(world.table_of(dial)) for dial in facts.paired]
                for many in range(1, world.steps + 1):
                    for chosen in itertools.combinations(range(world.steps), many):
                        led = all(table[step] in chosen for table in tables for step in chosen)
                        met[led] += 1
                        if led:
                            self.right(world, list(chosen), facts, words)
                        else:
                            self.tells(BadStand(chosen), sub_world, world, list(chosen))
        self.assertGreater(min(met.values()), 100)

    def right(self, world, chosen, facts, words):
        part = sub_world(world, chosen)
        self.assertEqual((part.steps, part.facts), (len(chosen), facts))
        self.assertTrue(keeps_told(part, facts))
        self.assertEqual(part.point_list(), [point for point in "xy" if world.place_of(point) in chosen])
        self.assertEqual(part.dial_list(), world.dial_list())
        for letter in world.dial_list() + list(facts.paired.upper()):
            old, new = world.table_of(letter), part.table_of(letter)
            self.assertEqual([chosen[step] for step in new], [old[step] for step in chosen])
        if "x" in part.point_list():
            for word in words:
                if set(dials_of([word])) <= set(world.dial_list()):
                    self.assertEqual(chosen[part(word)], world(word))

    def test_example_and_errors(self):
        whole, firsts = stack(World(2, {}, {"f": [1, 1]}), World(3, {}, {"f": [0, 0, 2]}))
        part = sub_world(whole, (1, 2, 4))
        self.assertEqual([whole.table_of("f"), firsts, part.table_of("f")],
                         [[1, 1, 2, 2, 4], [0, 2], [0, 1, 2]])
        for chosen in [[0, 3], [], [1, 1], [2, 1], [-1, 1], [1, 5], [0]]:
            self.tells(BadStand(tuple(chosen)), sub_world, whole, chosen)
        world = World(3, {"x": 1}, {"a": [0, 1, 1]}, Facts(paired="a"))
        # a leads 0 and 1 to themselves, but A leads 1 to 2.
        self.tells(BadStand((0, 1)), sub_world, world, [0, 1])
        self.assertEqual(sub_world(world, [0]).table_of("A"), [0])
        self.assertEqual(sub_world(world, [0]).point_list(), [])


class TestOneForAll(DialCase):

    def right(self, claims, facts):
        world, rows = one_for_all(claims, facts)
        known = Facts() if facts is None else facts
        words = [word for claim in claims for word in claim.word_list()]
        self.assertEqual((world.facts, world.point_list()), (known, []))
        self.assertEqual(world.dial_list(), sorted(set(dials_of(words)) | set(known.dial_list())))
        self.assertTrue(keeps_told(world, known))
        self.assertEqual(len(rows), len(claims))
        for claim, places in zip(claims, rows):
            self.assertEqual(places is None, sure(claim, facts))
            if places is not None:
                self.assertEqual(sorted(places), points_of(claim.word_list()))
                placed = world.placed(places)
                values = {word: value_in(placed, word) for word in claim.word_list()}
                self.assertFalse(claim_holds(values, claim))
        return rows

    def test_claims_drawn_at_random(self):
        luck, met = random.Random(4), {True: 0, False: 0}
        rows = [(facts, PLAIN_WORDS) for facts in PLAIN_FACTS] + \
            [(facts, PAIRED_WORDS) for facts in PAIRED_FACTS]
        for facts, words in rows:
            for at in range(5):
                claims = some_claims(luck.randrange(9999), luck.randint(0, 6), words, 7)
                for row in self.right(claims, facts):
                    met[row is None] += 1
        self.assertGreater(min(met.values()), 15)

    def test_the_sure_ones_hold_at_all_places(self):
        claims = [Claim.of(le("fx", "gx")), Claim.of(le("x", "fx")), Claim.of(le("gy", "x"))]
        facts = Facts(("f", "g"))
        world, rows = one_for_all(claims, facts)
        self.assertIsNone(rows[0])
        for at in range(world.steps):
            self.assertIs(claims[0].holds_in(world.placed({"x": at})), True)

    def test_no_claims_and_only_sure_ones(self):
        self.assertEqual(self.right([], None), [])
        self.assertEqual(self.right([], Facts(("f", "1"), paired="a")), [])
        self.assertEqual(self.right((Claim.of(le("x", "x")), Claim.of(le("fy", "fy"))), None), [None, None])
        self.assertGreaterEqual(one_for_all([])[0].steps, 1)

    def test_sixty_steps_and_more(self):
        facts = Facts(("1", "f"), paired="a")
        # All tails of a tower have different values, and its back dial needs two steps more.
        high, low = tower(14), tower(2)
        self.assertEqual([len(tail_set(claim.word_list())) for claim in (high, low)], [16, 4])
        self.right([high, high, low, high], facts)
        self.assertEqual(one_for_all([high, high, high, low], facts)[0].steps, 60)
        self.tells(TooLarge("steps"), one_for_all, [high, high, high, tower(3)], facts)
        self.tells(TooLarge("steps"), one_for_all, [high] * 4, facts)
        self.right([high, high, high, Claim.of(le("x", "ffx")), Claim.of(le("x", "fx"))], facts)

    def test_six_claims_and_seven(self):
        claims = [Claim.of(le("x", "fx"))] * 6
        self.right(claims, None)
        self.tells(TooLarge("claims"), one_for_all, claims + [Claim.of(le("Fx", "x"))])
        self.tells(NotPaired("F"), one_for_all, claims[:4] + [Claim.of(le("Fx", "x")), claims[0]])
        wide = Claim.saying([letter + "x" for letter in "abcdefgh"], [letter + "x" for letter in "ijklmnop"])
        self.tells(TooLarge("words"), one_for_all, [wide, Claim.of(le("Fx", "x"))])
        self.tells(NotPaired("F"), one_for_all, [Claim.of(le("Fx", "x")), wide])


if __name__ == "__main__":
    unittest.main()
