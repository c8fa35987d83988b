"""The letters' order: points [25] and [26]."""

import itertools
import unittest

from helpers import SOME_FACTS, DialCase, shown, table_choices
from unseendials.errors import BadLetter, NotPaired
from unseendials.facts import Facts
from unseendials.letters import letter_against, lies_below

MORE_FACTS = SOME_FACTS + [
    Facts(("f", "1"), ("1", "g")), Facts(("a", "b"), ("b", "c"), ("1", "b"), paired="abc"),
    Facts(("a", "1"), ("b", "1"), paired="ab"), Facts(("1", "a"), ("1", "b"), paired="ab"),
    Facts(("f", "g"), ("g", "1"), ("a", "1"), paired="ab"),
]


def letters_for(facts):
    return ["1", "f", "g"] + [letter for dial in facts.paired for letter in dial + dial.upper()]


class TestOrder(DialCase):

    def test_below_exactly_if_nowhere_higher(self):
        for facts in SOME_FACTS:
            choices = [(steps, table_choices(facts, steps, "fg")) for steps in (1, 2, 3)]
            for first, second in itertools.product(letters_for(facts), repeat=2):
                never_higher = all(shown(tables, first, at) <= shown(tables, second, at)
                                   for steps, rows in choices for tables in rows
                                   for at in range(steps))
                self.assertIs(lies_below(facts, first, second), never_higher)

    def test_the_order_is_the_one_told(self):
        facts = Facts(("f", "1"), ("1", "a"), ("a", "b"), paired="ab")
        order = ["B", "A", "1", "a", "b"]
        for first, second in itertools.product(order, repeat=2):
            self.assertEqual(lies_below(facts, first, second),
                             order.index(first) <= order.index(second))
        self.assertTrue(lies_below(facts, "f", "a"))
        self.assertFalse(lies_below(facts, "f", "A"))
        self.assertTrue(lies_below(None, "f", "f"))
        self.assertFalse(lies_below(None, "f", "g"))

    def test_worlds_against(self):
        for facts in MORE_FACTS:
            for first, second in itertools.product(letters_for(facts), repeat=2):
                answer = letter_against(facts, first, second)
                self.assertEqual(answer is None, lies_below(facts, first, second))
                if answer is None:
                    continue
                world, at = answer
                self.assertIs(type(answer), tuple)
                self.assertLessEqual(world.steps, 3)
                self.assertTrue(world.facts == facts)
                self.assertGreater(world.table_of(first)[at], world.table_of(second)[at])
                dials = set(facts.dial_list()) | {first.lower(), second.lower()} - {"1"}
                self.assertEqual([world.dial_list(), world.point_list()], [sorted(dials), []])

    def test_no_facts(self):
        world, at = letter_against(None, "g", "1")
        self.assertEqual(len(world.facts), 0)
        self.assertEqual(world.dial_list(), ["g"])
        self.assertGreater(world.table_of("g")[at], at)
        self.assertIsNone(letter_against(None, "1", "1"))

    def test_errors(self):
        facts = Facts(("f", "g"), paired="a")
        for call in [lies_below, letter_against]:
            self.tells(BadLetter("x"), call, facts, "x", "B")
            self.tells(NotPaired("F"), call, facts, "F", "x")
            self.tells(BadLetter("x"), call, facts, "A", "x")
            self.tells(NotPaired("B"), call, facts, "A", "B")
            self.tells(NotPaired("A"), call, None, "A", "A")
            self.tells(BadLetter(""), call, None, "", "A")
            self.tells(BadLetter("fg"), call, None, "f", "fg")


if __name__ == "__main__":
    unittest.main()
