"""What several tests need: told errors, and brute force over small chains."""

import itertools
import unittest

from unseendials.errors import DialError
from unseendials.facts import Facts
from unseendials.worlds import World


class DialCase(unittest.TestCase):
    """A test case that can look at the class and the fields of an error."""

    def tells(self, error, call, *args, **named):
        """Assert that the call raises an error of this very class with these fields."""
        with self.assertRaises(DialError) as caught:
            call(*args, **named)
        raised = caught.exception
        self.assertEqual((type(raised).__name__, vars(raised)),
                         (type(error).__name__, vars(error)))

    def told_clash(self, sketch, clash):
        """Assert that a clash breaks its rule, with entries that stand or count besides."""
        rule, one, other = clash
        self.assertTrue(clash_is_right(rule, one, other, sketch.facts))


def first_of(generator_function, *args):
    """Ask a generator for its first value."""
    return next(iter(generator_function(*args)))


def rising_tables(steps):
    """Return all rising tables on the chain, as tuples."""
    return list(itertools.combinations_with_replacement(range(steps), steps))


def back_of(table):
    """Return the back table straight from its description."""
    return [max(c for c in range(len(table)) if table[c] <= at) for at in range(len(table))]


def shown(tables, letter, at):
    """Return what a letter shows at a step, by the tables of the dials."""
    if letter == "1":
        return at
    if letter.isupper():
        return back_of(tables[letter.lower()])[at]
    return tables[letter][at]


def keeps_facts(tables, facts, steps):
    """Return whether tables keep the facts, straight from the description."""
    pairs = all(shown(tables, low, at) <= shown(tables, high, at)
                for low, high in facts for at in range(steps))
    return pairs and all(tables[dial][0] == 0 for dial in facts.paired)


def table_choices(facts, steps, dials):
    """Return all choices of rising tables for the dials that keep the facts, as dicts."""
    letters = sorted(set(dials) | set(facts.dial_list()))
    choices = itertools.product(rising_tables(steps), repeat=len(letters))
    rows = [dict(zip(letters, choice)) for choice in choices]
    return [tables for tables in rows if keeps_facts(tables, facts, steps)]


def walk_worlds(facts, steps, dials, points=""):
    """Yield all worlds on the chain with these dials and points, and the dials of the facts."""
    for tables in table_choices(facts, steps, dials):
        for stands in itertools.product(range(steps), repeat=len(points)):
            yield World(steps, dict(zip(points, stands)), tables, facts)


def weak_orders(many):
    """Return the rank lists of all orders with ties of that many things, in order."""
    return [ranks for ranks in itertools.product(range(many), repeat=many)
            if set(ranks) == set(range(max(ranks) + 1))]


def parts_under(facts, low):
    """Return all parts that low is under, by going along the told pairs again and again."""
    found = {low}
    while True:
        more = found | {high for one, high in facts if one in found}
        if more == found:
            return found
        found = more


def clash_is_right(rule, one, other, facts):
    """Return whether two entries break the rule of that number, as DOC.md words it."""
    a, b = one[0].lower(), other[0].lower()
    if b not in parts_under(facts, a):
        return False
    kinds = {1: (False, False), 2: (False, True), 3: (True, False), 4: (True, True)}
    for entry, back in zip((one, other), kinds[rule]):
        if entry[0] != "1" and entry[0].isupper() != back:
            return False
    (_, c, r), (_, c2, r2) = one, other
    if rule == 1:
        return c <= c2 and r > r2
    if rule == 2:
        return c <= r2 and r > c2
    if rule == 3:
        return r2 <= c and c2 > r
    return c2 <= c and r2 > r


SOME_FACTS = [
    Facts(), Facts(("f", "g")), Facts(("1", "f")), Facts(("f", "1")), Facts(("g", "1"), ("1", "f")),
    Facts(("f", "1"), ("1", "f")), Facts(("f", "g"), ("g", "f")), Facts(paired="a"),
    Facts(("1", "a"), paired="a"), Facts(("a", "1"), paired="a"), Facts(paired="ab"),
    Facts(("a", "b"), paired="ab"), Facts(("a", "1"), ("1", "b"), paired="ab"),
    Facts(("a", "1"), ("1", "a"), paired="a"), Facts(("f", "1"), ("1", "a"), paired="a"),
]
