"""Papers: points [130] and [131]."""

import itertools
import random
import unittest

from agreeing import agreeing_tables, places_of, value_by
from brute import some_worlds
from helpers import SOME_FACTS, DialCase
from unseendials.errors import BadEntry, BadWord, NoPairs, NoPlace, NotPaired, NoTable
from unseendials.facts import Facts
from unseendials.papers import is_paper, thin_paper
from unseendials.sketches import Sketch
from unseendials.words import dials_of
from unseendials.worlds import World


def entries_of(world):
    return [(dial, at, shown) for dial in world.dial_list()
            for at, shown in enumerate(world.table_of(dial))]


def sketch_of(entries, world):
    """Return the sketch with the steps, facts and places of a world and just these entries."""
    places = {point: world.place_of(point) for point in world.point_list()}
    sketch = Sketch(world.steps, world.facts, places=places)
    for entry in entries:
        sketch.read(*entry)
    return sketch


def paper_by(entries, word, world):
    """Return whether the word has one value in all worlds that agree with the entries."""
    sketch = sketch_of(entries, world)
    rows = agreeing_tables(sketch, dials_of([word]))
    return len({value_by(tables, places_of(sketch), word) for tables in rows}) == 1


def thinned_by(entries, word, world):
    """Return the entries that remain, straight from the description."""
    left = list(dict.fromkeys(entries))
    if not paper_by(left, word, world):
        return None
    for entry in list(left):
        fewer = [other for other in left if other != entry]
        if paper_by(fewer, word, world):
            left = fewer
    return left


def some_worlds_and_words(seed, many):
    luck = random.Random(seed)
    for facts in SOME_FACTS:
        dials = "f" if facts.paired else "fg"
        words = ["x", "fx", "ax", "fax", "afx", "ffx"] if facts.paired == "a" else \
            ["x", "ax", "abx", "fbx"] if facts.paired else ["x", "fx", "gx", "fgx", "gfx", "ffx"]
        for world in some_worlds(seed, many, facts, dials, "x"):
            yield world, luck.choice(words), luck


class TestPapers(DialCase):

    def test_exactly_if_all_agreeing_worlds_show_one_value(self):
        met = {True: 0, False: 0}
        for world, word, luck in some_worlds_and_words(900, 8):
            every = entries_of(world)
            for _ in range(3):
                entries = luck.sample(every, luck.randint(0, len(every)))
                told = is_paper(entries, word, world)
                self.assertIs(told, paper_by(entries, word, world))
                met[told] += 1
        self.assertGreater(min(met.values()), 80)

    def test_more_is_a_paper_and_all_are(self):
        for world, word, luck in some_worlds_and_words(910, 4):
            every = entries_of(world)
            self.assertIs(is_paper(every, word, world), True)
            entries = luck.sample(every, luck.randint(0, len(every)))
            if is_paper(entries, word, world):
                more = entries + luck.sample(every, luck.randint(0, len(every)))
                self.assertIs(is_paper(more, word, world), True)

    def test_entries_of_every_paper(self):
        for world, word, _ in some_worlds_and_words(920, 1):
            every = entries_of(world)
            if len(every) > 6:
                continue
            papers = [set(part) for many in range(len(every) + 1)
                      for part in itertools.combinations(every, many) if is_paper(part, word, world)]
            for entry in every:
                others = [other for other in every if other != entry]
                self.assertEqual(all(entry in paper for paper in papers),
                                 not is_paper(others, word, world))

    def test_thin_ones(self):
        shorter = 0
        for world, word, luck in some_worlds_and_words(930, 6):
            entries = luck.sample(entries_of(world), len(entries_of(world)))
            if luck.random() < 0.4:
                entries = entries[:luck.randint(0, len(entries))]
            entries += luck.sample(entries, luck.randint(0, len(entries)))
            thin = thin_paper(entries, word, world)
            self.assertEqual(thin, thinned_by(entries, word, world))
            if thin is not None:
                self.assertIs(is_paper(thin, word, world), True)
                for entry in thin:
                    self.assertIs(is_paper([one for one in thin if one != entry], word, world), False)
                shorter += 0 < len(thin) < len(entries)
        self.assertGreater(shorter, 25)

    def test_a_triple_that_stands_twice(self):
        world = World(3, {"x": 1}, {"f": [0, 1, 2]})
        entries = [("f", 1, 1), ("f", 0, 0), ("f", 1, 1)]
        self.assertEqual(thin_paper(entries, "fx", world), [("f", 1, 1)])
        self.assertEqual(entries, [("f", 1, 1), ("f", 0, 0), ("f", 1, 1)])
        # Either entry is enough; the first one is gone through, and left out, at its first place.
        world = World(2, {"x": 1}, {"f": [1, 1]})
        self.assertEqual(thin_paper([("f", 0, 1), ("f", 1, 1), ("f", 0, 1)], "fx", world), [("f", 1, 1)])

    def test_triples_in_lists_and_tuples(self):
        world = World(2, {"x": 1}, {"f": [0, 1]})
        self.assertEqual(thin_paper((["f", 0, 0], ["f", 1, 1]), "fx", world), [("f", 1, 1)])
        self.assertIs(is_paper([["f", 0, 0]], "fx", world), False)
        self.assertIsNone(thin_paper([], "fx", world))
        self.assertEqual(thin_paper([("f", 0, 0)], "x", world), [])

    def test_paired_dials_without_back_dials(self):
        world = World(3, {"x": 0}, {"a": [0, 1, 1]}, Facts(paired="a"))
        self.assertEqual(thin_paper([("a", 1, 1)], "ax", world), [])
        self.assertIs(is_paper([("a", 1, 1)], "aax", world.placed({"x": 2})), False)

    def test_errors_in_order(self):
        facts = Facts(paired="ab")
        world = World(3, {"x": 0}, {"a": [0, 1, 1], "b": [0, 0, 0], "f": [1, 1, 2]}, facts)
        bad = [("f", 0, 1), ("f", 1, 2), ("A", 0, 0)]
        for call in (is_paper, thin_paper):
            self.tells(BadWord("f"), call, bad, "f", world)
            self.tells(NotPaired("F"), call, bad, "GFgAy", world)
            self.tells(NoPairs("A"), call, bad, "BfAgy", world)
            self.tells(NoPlace("y"), call, bad, "gy", world)
            self.tells(NoTable("g"), call, bad, "hgx", world)
            self.tells(BadEntry("f", 1, 2), call, bad, "fx", world)
            for entry in [("A", 0, 0), ("1", 0, 0), ("g", 0, 0), ("f", 3, 2), ("f", -1, 2), ("f", 0, 0)]:
                self.tells(BadEntry(*entry), call, [("f", 0, 1), entry], "fx", world)


if __name__ == "__main__":
    unittest.main()
