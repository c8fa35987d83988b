"""Least chains and refutations for some steps: point [52], and [55] on powers."""

import itertools
import unittest

from brute import bearing_orders, bears, refuted_by, tales_with_facts, value_in
from helpers import DialCase, walk_worlds
from unseendials.comparisons import Tale, le, lt
from unseendials.deciding import is_refutation, possible
from unseendials.errors import BadSteps, NoPairs, NotPaired, TooLarge
from unseendials.facts import Facts
from unseendials.leastchain import chain_tree, chain_world, least_chain
from unseendials.trees import Crowd

PLAIN = [(tale, facts) for tale, facts in tales_with_facts(121, 14, 5, 4) if not facts.paired]


class TestLeastChain(DialCase):

    def right(self, tale, facts):
        """Assert that world and trees go with the least chain, and return it."""
        many = least_chain(tale, facts)
        world = chain_world(tale, facts)
        self.assertEqual(many is None, not possible(tale, facts))
        if many is None:
            self.assertIsNone(world)
        else:
            self.assertEqual(world.steps, many)
            self.assertTrue(bears(world, tale, facts))
        for steps in range(1, 8):
            tree = chain_tree(tale, facts, steps=steps)
            self.assertEqual(tree is None, many is not None and many <= steps)
            if tree is not None:
                self.assertTrue(refuted_by(tree, tale, facts, steps=steps))
                self.assertIs(is_refutation(tree, tale, facts, steps=steps), True)
        return many

    def test_least_number_of_groups(self):
        met = {}
        for tale, facts in PLAIN:
            orders = bearing_orders(tale, facts)
            many = self.right(tale, facts)
            groups = [len(set(ranks.values())) for ranks in orders]
            self.assertEqual(many, min(groups) if groups else None)
            met[many] = met.get(many, 0) + 1
        self.assertLessEqual({None, 1, 2, 3}, set(met))

    def test_no_world_on_a_shorter_chain(self):
        for rows, facts in [([lt("fx", "ffx")], Facts()), ([lt("x", "fx"), lt("fy", "y")], Facts()),
                            ([lt("x", "fx")], Facts(("f", "f")))]:
            tale = Tale.listed(rows)
            many = least_chain(tale, facts)
            for steps in range(1, many + 1):
                borne = any(all(one.holds_in(world) for one in tale) for world in
                            walk_worlds(facts, steps, ["f"], "xy" if "y" in tale.tail_list() else "x"))
                self.assertEqual(borne, steps == many)

    def test_powers(self):
        for i, j in itertools.product(range(7), repeat=2):
            tale = Tale(lt("f" * j + "x", "f" * i + "x"))
            self.assertEqual(self.right(tale, Facts()), None if i == j else min(i, j) + 2)

    def test_crowds_are_needed(self):
        tale = Tale(lt("fx", "ffx"))
        tree = chain_tree(tale, steps=2)
        self.assertFalse(refuted_by(tree, tale, Facts()))
        self.assertTrue(refuted_by(tree, tale, Facts(), steps=2))

        def crowds(node):
            if isinstance(node, Crowd):
                return 1 + sum(map(crowds, node.branches))
            return sum(map(crowds, [getattr(node, side) for side in ("left", "right")
                                    if hasattr(node, side)]))

        self.assertGreater(crowds(tree), 0)

    def test_empty_tale(self):
        self.assertEqual(self.right(Tale(), Facts()), 1)
        world = chain_world(Tale(), Facts(("1", "f")))
        self.assertEqual((world.steps, world.point_list(), world.dial_list()), (1, [], ["f"]))
        self.assertEqual(self.right(Tale(words=["fx", "y"]), Facts()), 1)

    def test_seven_tails_and_eight(self):
        points = Tale.listed([lt(p, q) for p, q in zip("uvwxy", "vwxyz")])
        self.assertEqual(self.right(points, Facts()), 6)
        self.assertEqual(self.right(points.told(lt("z", "fz")), Facts()), 7)
        self.assertEqual(self.right(Tale(words=[*"uvwxyz", "fx"]), Facts()), 1)
        self.assertEqual(self.right(Tale(lt("x", "gfx"), words=["fy", "gy", "gx"]), Facts()), 2)
        eight = Tale(words=[*"uvwxyz", "fx", "fy"])
        for call in (least_chain, chain_world):
            self.tells(TooLarge("words"), call, eight)
        self.tells(TooLarge("words"), chain_tree, eight, steps=0)

    def test_steps(self):
        for steps in (0, -1, 61):
            self.tells(BadSteps(steps), chain_tree, Tale(lt("x", "x")), steps=steps)
        self.assertIs(is_refutation(chain_tree(Tale(lt("x", "x")), steps=60), Tale(lt("x", "x"))), True)
        self.assertIsNone(chain_tree(Tale(), steps=60))

    def test_errors_in_order(self):
        pair = Facts(paired="a")
        for call, more in [(least_chain, {}), (chain_world, {}), (chain_tree, {"steps": 0})]:
            self.tells(NotPaired("F"), call, Tale(words=["aFx", *"uvwyz", "fgx"]), pair, **more)
            self.tells(NoPairs("A"), call, Tale(words=["fAx", *"uvwyz", "fgx"]), pair, **more)
            self.tells(NoPairs("a"), call, Tale(le("ax", "x")), pair, **more)
        self.assertEqual(least_chain(Tale(lt("x", "fx")), pair), 2)
        self.assertEqual(chain_world(Tale(lt("x", "fx")), pair).dial_list(), ["a", "f"])

    def test_groups_are_merged_where_nothing_forces_them_apart(self):
        tale = Tale(lt("x", "y"), words=["u", "v", "w", "z"])
        self.assertEqual(self.right(tale, Facts()), 2)
        world = chain_world(tale)
        self.assertLess(value_in(world, "x"), value_in(world, "y"))
        # x and y cannot be level, and whichever is lower, three values are needed.
        for more in ([], [lt("x", "y")], [lt("y", "x")]):
            tale = Tale.listed([lt("fx", "gx"), lt("gy", "fy"), *more], ["u"])
            self.assertEqual(self.right(tale, Facts()), 3)


if __name__ == "__main__":
    unittest.main()
