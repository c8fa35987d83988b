"""Worlds that agree with a sketch, listed one after the other on small chains."""

import functools
import random

from helpers import SOME_FACTS, shown, table_choices
from unseendials.errors import Clash
from unseendials.facts import Facts
from unseendials.sketches import Sketch

READ_FACTS = SOME_FACTS + [Facts(("f", "g"), ("g", "h")), Facts(("f", "h"), ("g", "h"))]


@functools.lru_cache(maxsize=None)
def _choices(pairs, paired, steps, dials):
    return table_choices(Facts.listed(pairs, paired), steps, dials)


def agreeing_tables(sketch, dials):
    """Return the tables of all agreeing worlds, as dicts, for these dials and those of the sketch."""
    facts, entries = sketch.facts, sketch.entry_list()
    letters = "".join(sorted(set(dials) | {letter.lower() for letter, _, _ in entries}))
    return [tables for tables in _choices(tuple(facts), facts.paired, sketch.steps, letters)
            if all(shown(tables, letter, at) == step for letter, at, step in entries)]


def value_by(tables, places, word):
    """Return the value of a word by tables and places alone."""
    step = places[word[-1]]
    for letter in reversed(word[:-1]):
        step = shown(tables, letter, step)
    return step


def places_of(sketch):
    return {point: sketch.place_of(point) for point in sketch.point_list()}


def some_sketches(seed, many, most_steps=3, points="xy"):
    """Return sketches on small chains with a few entries read at random, fact by fact."""
    luck = random.Random(seed)
    sketches = []
    for facts in READ_FACTS:
        letters = ["a", "A", "f"] if "a" in facts.paired else ["f", "g", "f", "g", *facts.dial_list()]
        letters += ["b", "B"] if "b" in facts.paired else []
        for _ in range(many):
            steps = luck.randint(1, most_steps)
            sketch = Sketch(steps, facts, places={point: luck.randrange(steps) for point in points})
            for _ in range(luck.randint(0, 3)):
                try:
                    sketch.read(luck.choice(letters), luck.randrange(steps), luck.randrange(steps))
                except Clash:
                    pass
            sketches.append(sketch)
    return sketches
