"""Weighing: points [126] to [129], and the counts of point [22] where they lean on them."""

import math
import random
import unittest

from agreeing import READ_FACTS, agreeing_tables, places_of, some_sketches, value_by
from brute import PLAIN_FACTS, PLAIN_WORDS, some_claims
from helpers import DialCase, parts_under, rising_tables
from test_readings import words_for
from unseendials.claims import Claim
from unseendials.comparisons import le
from unseendials.completions import greatest_world, least_world, stretch
from unseendials.counting import count_tables, never_lower_on, tables_on
from unseendials.errors import BadLetter, NoPlace, NotPaired, NoTable, TooLarge
from unseendials.facts import Facts
from unseendials.leastchain import least_chain
from unseendials.readings import walk_rows
from unseendials.sketches import Sketch
from unseendials.sureness import sure
from unseendials.weighing import count_holding, count_worlds
from unseendials.words import dials_of, tail_set


def entry_dials(sketch):
    return {letter.lower() for letter, _, _ in sketch.entry_list()}


def different(rows, dials):
    """Return how many of the rows of tables differ in these dials."""
    return len({tuple(tables[dial] for dial in sorted(dials)) for tables in rows})


def holds_by(claim, tables, places):
    values = {word: value_by(tables, places, word) for word in claim.word_list()}
    return any(values[u] <= values[v] for label in claim.label_list()
               for above, below in [claim.side_of(label)] for u in above for v in below)


class TestWorlds(DialCase):

    def test_numbers_of_agreeing_worlds(self):
        luck = random.Random(1)
        for sketch in some_sketches(800, 10):
            paired = "a" in sketch.facts.paired
            dials = entry_dials(sketch) | set(luck.sample("abf" if paired else "fgh", luck.randint(0, 3)))
            if len(dials | set(sketch.facts.dial_list())) > 3:
                continue
            rows = agreeing_tables(sketch, "".join(sorted(dials)))
            self.assertEqual(count_worlds(sketch, sorted(dials)), different(rows, dials))

    def test_sums_over_rows(self):
        luck = random.Random(2)
        for sketch in some_sketches(810, 3, points="xy"):
            words = luck.sample(words_for(sketch.facts), 2)
            dials = sorted(entry_dials(sketch) | set(dials_of(words)))
            numbers = []
            for row in walk_rows(words, sketch):
                longer = sketch.twin()
                for word in row:
                    if len(word) > 1:
                        longer.read(word[0], row[word[1:]], row[word])
                numbers.append(count_worlds(longer, dials))
            self.assertGreater(min(numbers), 0)
            self.assertEqual(count_worlds(sketch, dials), sum(numbers))

    def test_sums_over_a_stretch(self):
        luck = random.Random(3)
        for sketch in some_sketches(820, 4, 5):
            letter = luck.choice(["f", "a", "A"] if "a" in sketch.facts.paired else ["f", "g"])
            dials = sorted(entry_dials(sketch) | {letter.lower()})
            at = luck.randrange(sketch.steps)
            low, high = stretch(sketch, letter, at)
            numbers = []
            for step in range(low, high + 1):
                longer = sketch.twin()
                longer.read(letter, at, step)
                numbers.append(count_worlds(longer, dials))
            self.assertGreater(min(numbers), 0)
            self.assertEqual(count_worlds(sketch, dials), sum(numbers))

    def test_dials_apart_are_multiplied(self):
        sketch = Sketch(20, Facts(("1", "g")))
        sketch.read("f", 3, 7)
        one, other = count_worlds(sketch, ["f"]), count_worlds(Sketch(20, Facts(("1", "g"))), ["g"])
        self.assertEqual(one, count_tables(sketch, "f"))
        self.assertEqual(count_worlds(sketch, ["g", "f", "h", "g"]), one * other * tables_on(20))
        self.assertEqual(one, math.comb(10, 3) * math.comb(28, 16))
        self.assertEqual(count_worlds(Sketch(60), ["f", "g"]), tables_on(60) ** 2)

    def test_lots_through_other_dials(self):
        facts = Facts(("f", "g"), ("g", "h"))
        self.assertEqual(count_worlds(Sketch(2, facts), ["f", "h"]), 6)
        self.assertEqual(count_worlds(Sketch(2, facts), ["h"]), 3)
        # One row leads from f up to g, another one from h up to g: f and h are in one lot, apart.
        apart = Facts(("f", "g"), ("h", "g"))
        self.assertEqual(count_worlds(Sketch(2, apart), ["f", "h"]), 9)
        still = Facts(("f", "1"), ("1", "g"))
        self.assertEqual(count_worlds(Sketch(3, still), ["f", "g"]), 5 * 5)
        # Together they would have far more than 200 choices at a step.
        self.assertEqual(count_worlds(Sketch(60, still), ["f", "g"]), never_lower_on(60) ** 2)

    def test_choices_within_a_lot(self):
        for facts in READ_FACTS:
            dials = facts.dial_list()
            sketch = Sketch(3, facts)
            low, high = least_world(sketch), greatest_world(sketch)
            between = {dial: [table for table in rising_tables(3) if all(
                one <= step <= other for one, step, other in
                zip(low.table_of(dial), table, high.table_of(dial)))] for dial in dials}
            rows = [{}]
            for dial in dials:
                rows = [{**tables, dial: table} for tables in rows for table in between[dial]]
            rows = [tables for tables in rows if all(
                one <= other for a in dials for b in dials if b in parts_under(facts, a)
                for one, other in zip(tables[a], tables[b]))]
            self.assertEqual(count_worlds(sketch, dials), len(rows))

    def test_no_counted_dials(self):
        self.assertEqual(count_worlds(Sketch(9, Facts(("f", "g"))), []), 1)
        self.assertEqual(count_worlds(Sketch(1), ("f",)), 1)

    def test_two_hundred_choices_in_a_lot_and_more(self):
        facts = Facts(("f", "g"))
        for steps in (14, 15):
            sketch = Sketch(steps, facts)
            call = (lambda: count_worlds(sketch, ["f", "g"]))
            if steps == 15:
                self.tells(TooLarge("tables"), call)
            else:
                self.assertGreater(call(), 0)
            self.assertEqual(count_worlds(sketch, ["g"]), tables_on(steps))
        # 10 times 20 choices at 0 are let, 10 times 21 are not.
        sketch = Sketch(20, facts)
        sketch.read("f", 0, 0)
        sketch.read("f", 19, 9)
        self.assertGreater(count_worlds(sketch, ["f", "g"]), 0)
        sketch = Sketch(21, facts)
        sketch.read("f", 0, 0)
        sketch.read("f", 20, 9)
        self.tells(TooLarge("tables"), count_worlds, sketch, ["f", "g"])
        self.assertGreater(count_worlds(Sketch(60), ["f", "g", "h"]), 0)

    def test_errors_in_order(self):
        sketch = Sketch(60, Facts(("f", "g"), paired="ab"))
        sketch.read("B", 3, 3)
        sketch.read("f", 3, 3)
        self.tells(BadLetter("F"), count_worlds, sketch, ["a", "F", "x"])
        self.tells(BadLetter("1"), count_worlds, sketch, ["1"])
        self.tells(NoTable("b"), count_worlds, sketch, [])
        self.tells(NoTable("f"), count_worlds, sketch, ["g", "a", "b"])
        self.tells(NoTable("b"), count_worlds, sketch, ["f", "g"])
        self.tells(TooLarge("tables"), count_worlds, sketch, ["f", "g", "b"])


class TestHolding(DialCase):

    def test_numbers_of_agreeing_worlds(self):
        luck, part = random.Random(4), 0
        for at, sketch in enumerate(some_sketches(830, 20)):
            words = words_for(sketch.facts)
            claim = some_claims(840 + at, 1, words, 12)[0]
            dials = entry_dials(sketch) | set(dials_of(claim.word_list())) | set(luck.sample("fa", 1))
            if len(dials | set(sketch.facts.dial_list())) > 3:
                continue
            rows = agreeing_tables(sketch, "".join(sorted(dials)))
            places = places_of(sketch)
            holding = [tables for tables in rows if holds_by(claim, tables, places)]
            number = count_holding(claim, sketch, sorted(dials))
            self.assertEqual(number, different(holding, dials))
            every = count_worlds(sketch, sorted(dials))
            at_rows = [self.holds_at(claim, row) for row in walk_rows(claim.word_list(), sketch)]
            self.assertEqual((number == every, number == 0), (all(at_rows), not any(at_rows)))
            part += 0 < number < every
        self.assertGreater(part, 12)

    @staticmethod
    def holds_at(claim, row):
        return any(row[u] <= row[v] for label in claim.label_list()
                   for above, below in [claim.side_of(label)] for u in above for v in below)

    def test_sums_over_rows(self):
        sketch = Sketch(12, Facts(paired="a"), places={"x": 3, "y": 5})
        sketch.read("a", 4, 3)
        claim = Claim.named(u=(["aAx"], ["y"]), v=(["AAx", "fy"], ["fAx"]))
        total = 0
        for row in walk_rows(claim.word_list(), sketch):
            if self.holds_at(claim, row):
                longer = sketch.twin()
                for word in row:
                    if len(word) > 1:
                        longer.read(word[0], row[word[1:]], row[word])
                total += count_worlds(longer, ["a", "f"])
        self.assertEqual(count_holding(claim, sketch, ["f", "a", "a"]), total)

    def test_points_alone(self):
        sketch = Sketch(3, places={"x": 1, "y": 2})
        self.assertEqual(count_holding(Claim.of(le("x", "y")), sketch, []), 1)
        self.assertEqual(count_holding(Claim.of(le("y", "x")), sketch, ["f"]), 0)
        self.assertEqual(count_holding(Claim.saying([], ["x"]), sketch, []), 0)
        self.assertEqual(count_holding(Claim.of(le("fx", "fy")), sketch, ["f"]), tables_on(3))

    def test_nothing_read(self):
        met = {True: 0, False: 0}
        for at, facts in enumerate(PLAIN_FACTS):
            for claim in some_claims(850 + at, 10, PLAIN_WORDS, 6):
                chain = None if sure(claim, facts) else least_chain(claim.denial(), facts)
                dials, points = dials_of(claim.word_list()), claim.point_list()
                for steps in (1, 2, 3, 4):
                    stands = [{}]
                    for point in points:
                        stands = [{**places, point: at} for places in stands for at in range(steps)]
                    fails = any(count_holding(claim, Sketch(steps, facts, places=places), dials)
                                < count_worlds(Sketch(steps, facts, places=places), dials)
                                for places in stands)
                    self.assertEqual(fails, chain is not None and steps >= chain)
                    met[fails] += 1
        self.assertGreater(min(met.values()), 40)

    def test_errors_in_order(self):
        sketch = Sketch(60, Facts(("f", "g"), paired="ab"), places={"x": 3})
        sketch.read("B", 3, 3)
        claim = Claim.of(le("f" * 20 + "x", "g" * 4 + "z"), le("u", "Ax"))
        self.assertEqual(len(tail_set(claim.word_list())), 28)
        self.tells(NotPaired("H"), count_holding, Claim.of(le("f" * 24 + "x", "Hx")), sketch, ["x"])
        self.tells(TooLarge("words"), count_holding, claim, sketch, ["x"])
        claim = Claim.of(le("fgx", "gz"), le("u", "Ax"))
        self.tells(BadLetter("x"), count_holding, claim, sketch, ["f", "x", "1"])
        self.tells(NoTable("a"), count_holding, claim, sketch, ["f", "c"])
        self.tells(NoTable("b"), count_holding, claim, sketch, ["f", "g", "a"])
        self.tells(NoTable("g"), count_holding, claim, sketch, ["b", "f", "a"])
        self.tells(NoPlace("u"), count_holding, claim, sketch, ["b", "f", "a", "g"])
        claim = Claim.of(le("fgx", "gx"), le("x", "Ax"))
        self.tells(TooLarge("tables"), count_holding, claim, sketch, ["b", "f", "a", "g"])
        plain = Sketch(60, places={"x": 3})
        self.tells(TooLarge("rows"), count_holding, Claim.of(le("fx", "gx"), le("hx", "kx")), plain,
                   ["f", "g", "h", "k"])
        self.assertGreater(count_holding(Claim.of(le("fx", "gx")), plain, ["f", "g"]), 0)


if __name__ == "__main__":
    unittest.main()
