"""Rankings set on a chain: point [34] and the heading unseendials/placing.py."""

import itertools
import unittest

from helpers import DialCase, table_choices, weak_orders
from test_keeping import CASES, breaks_some
from test_sketches import completions_of
from unseendials.completions import is_completion
from unseendials.errors import BadStand, BadSteps, Clash, NotKept
from unseendials.facts import Facts
from unseendials.listings import walk_rankings
from unseendials.placing import ranking_sketch, ranking_world
from unseendials.rankings import Ranking
from unseendials.sketches import Sketch
from unseendials.words import tail_set
from unseendials.worlds import World


def entries_of(ranking, stands):
    """Return the entries of point [34], in word order of their words, each once."""
    step = {word: at for group, at in zip(ranking, stands) for word in group}
    rows = [(word[0], step[word[1:]], step[word]) for word in ranking.word_list() if len(word) > 1]
    return list(dict.fromkeys(rows))


def settings(many, steps, edge):
    """Return all choices of steps for that many groups."""
    return itertools.combinations(range(edge, steps - edge), many)


class TestSketches(DialCase):

    def test_entries_and_places(self):
        ranking = Ranking([["x"], ["fx", "y"], ["gx", "fy", "ffy"]])
        sketch = ranking_sketch(ranking, steps=9, at=(1, 4, 6))
        self.assertEqual([sketch.steps, len(sketch.facts)], [9, 0])
        self.assertEqual([sketch.point_list(), sketch.place_of("x"), sketch.place_of("y")],
                         [["x", "y"], 1, 4])
        self.assertEqual(sketch.entry_list(),
                         [("f", 1, 4), ("f", 4, 6), ("g", 1, 6), ("f", 6, 6)])
        self.assertEqual(sketch.entry_list(), entries_of(ranking, [1, 4, 6]))

    def test_defaults(self):
        plain = Ranking([["x"], ["fx"], ["ffx"]])
        backed = Ranking([["Ax"], ["x"]])
        facts = Facts(paired="a")
        cases = [(ranking_sketch(plain), 3, [0, 1, 2]), (ranking_sketch(plain, facts), 3, [0, 1, 2]),
                 (ranking_sketch(plain, at=[1, 4, 5]), 6, [1, 4, 5]),
                 (ranking_sketch(plain, steps=7), 7, [0, 1, 2])]
        for sketch, steps, stands in cases:
            self.assertEqual([sketch.steps, sketch.entry_list()],
                             [steps, entries_of(plain, stands)])
        grounded = Facts(("a", "1"), paired="a")
        with self.assertRaises(NotKept):
            ranking_sketch(backed, grounded)
        self.assertEqual(ranking_sketch(backed, facts).steps, 4)
        self.assertEqual(ranking_sketch(backed, facts).entry_list(), [("A", 2, 1)])
        self.assertEqual(ranking_sketch(backed, facts, at=[1, 4]).steps, 6)
        small = Ranking([["x"], ["ax"]])
        self.assertEqual(ranking_sketch(small, facts, steps=5).place_of("x"), 1)

    def test_errors_in_their_order(self):
        ranking = Ranking([["x"], ["fx"], ["ffx"]])
        for at in [[0, 1], [0, 1, 2, 3], [0, 2, 2], [2, 1, 0], [-1, 0, 1], []]:
            self.tells(BadStand(tuple(at)), ranking_sketch, ranking, at=at)
            self.tells(BadStand(tuple(at)), ranking_world, ranking, at=tuple(at), steps=99)
        for steps in [2, 1, 0, -5]:
            self.tells(BadStand((0, 1, 2)), ranking_sketch, ranking, steps=steps)
        self.tells(BadStand((0, 1, 5)), ranking_sketch, ranking, steps=5, at=[0, 1, 5])
        self.assertEqual(ranking_sketch(ranking, steps=6, at=[0, 1, 5]).steps, 6)
        self.tells(BadSteps(61), ranking_sketch, ranking, steps=61)
        self.tells(BadSteps(61), ranking_sketch, ranking, at=[0, 1, 60])
        self.tells(BadSteps(10 ** 17), ranking_world, ranking, steps=10 ** 17)
        self.assertEqual(ranking_sketch(ranking, at=[0, 1, 59]).steps, 60)
        wrong = Ranking([["x"], ["fx"], ["ffx", "y"], ["fy"]])
        self.assertEqual(ranking_sketch(wrong, steps=4).steps, 4)
        self.tells(NotKept(1), ranking_sketch, wrong, Facts(("f", "1")), steps=1, at=[7])

    def test_paired_letters_leave_the_ends_free(self):
        facts = Facts(paired="a")
        for ranking in [Ranking([["x", "ax"]]), Ranking([["x"], ["Ax"]])]:
            many = len(ranking)
            self.assertEqual(ranking_sketch(ranking, facts, steps=many + 2).steps, many + 2)
            stands = tuple(range(1, many + 1))
            self.tells(BadStand(stands), ranking_sketch, ranking, facts, steps=many + 1)
            low = tuple(range(many))
            self.tells(BadStand(low), ranking_sketch, ranking, facts, at=low)
            high = tuple(range(6 - many, 6))
            self.tells(BadStand(high), ranking_sketch, ranking, facts, steps=6, at=list(high))
        self.tells(BadSteps(61), ranking_sketch, Ranking([["x"], ["Ax"]]), facts, at=[1, 59])
        free = Ranking([["x"], ["fx"]])
        self.assertEqual(ranking_sketch(free, facts, steps=2).steps, 2)

    def test_long_rankings(self):
        words = [head + point for head in ["", "f", "g", "h", "k", "l", "m", "n", "o", "p"]
                 for point in "uvwxyz"]
        ranks = [0 if len(word) > 1 else 1 + "uvwxyz".index(word) for word in words]
        self.assertEqual(ranking_sketch(Ranking.of_ranks(words, ranks)).steps, 7)
        long_row = Ranking([["f" * at + "x"] for at in range(40)])
        self.assertEqual(ranking_sketch(long_row).steps, 40)
        self.tells(BadSteps(62), ranking_sketch, long_row, at=list(range(22, 62)))


class TestWorlds(DialCase):

    def test_each_word_has_the_step_of_its_group(self):
        for facts, words in CASES:
            tails = tail_set(words)
            edge = 1 if any(facts.has_pair(letter) for word in words for letter in word) else 0
            for ranking in walk_rankings(words, facts):
                steps = len(ranking) + 2 * edge + 1
                for stands in settings(len(ranking), steps, edge):
                    sketch = ranking_sketch(ranking, facts, steps=steps, at=list(stands))
                    self.assertEqual(sketch.entry_list(), entries_of(ranking, stands))
                    for greatest in (False, True):
                        world = ranking_world(ranking, facts, steps=steps, at=stands,
                                              greatest=greatest)
                        self.assertEqual([world(word) for word in tails],
                                         [stands[ranking.rank_of(word)] for word in tails])
                        self.assertTrue(is_completion(sketch, world))

    def test_all_completions_show_the_ranking(self):
        facts = Facts(("f", "1"))
        for ranking in walk_rankings(["ffx"], facts):
            sketch = ranking_sketch(ranking, facts, steps=4)
            for tables in completions_of(table_choices(facts, 4, "f"), sketch.entry_list()):
                world = World(4, {"x": sketch.place_of("x")}, tables, facts)
                self.assertEqual([world(word) for word in ["x", "fx", "ffx"]],
                                 ranking.rank_list())

    def test_rankings_that_are_not_kept_clash_wherever_they_are_set(self):
        for facts, words in CASES:
            tails = tail_set(words)
            edge = 1 if any(facts.has_pair(letter) for word in words for letter in word) else 0
            for ranks in weak_orders(len(tails)):
                ranking = Ranking.of_ranks(tails, ranks)
                if not breaks_some(ranking, facts):
                    continue
                with self.assertRaises(NotKept) as caught:
                    ranking_world(ranking, facts)
                self.assertIn(caught.exception.rule, (1, 2, 3, 4))
                steps = len(ranking) + 2 * edge + 1
                for stands in list(settings(len(ranking), steps, edge))[::2]:
                    sketch = Sketch(steps, facts)
                    with self.assertRaises(Clash):
                        for entry in entries_of(ranking, stands):
                            sketch.read(*entry)

    def test_the_told_rule_is_broken(self):
        for groups, facts, rules in [([["x"], ["y"], ["fy"], ["fx"]], None, {1}),
                                     ([["Aax"], ["x"], ["ax"]], Facts(paired="a"), {3})]:
            with self.assertRaises(NotKept) as caught:
                ranking_sketch(Ranking(groups), facts)
            self.assertIn(caught.exception.rule, rules)

    def test_least_and_greatest(self):
        ranking = Ranking([["x"], ["fx"]])
        facts = Facts(("f", "g"), paired="a")
        least = ranking_world(ranking, facts, steps=4, at=[1, 2])
        greatest = ranking_world(ranking, facts, steps=4, at=[1, 2], greatest=True)
        self.assertEqual([least.table_of("f"), greatest.table_of("f")],
                         [[0, 2, 2, 2], [2, 2, 3, 3]])
        for world in (least, greatest):
            self.assertEqual([world.dial_list(), world.point_list()], [["a", "f", "g"], ["x"]])
            self.assertTrue(world.facts == facts)


if __name__ == "__main__":
    unittest.main()
