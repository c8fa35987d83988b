"""Completions: the worlds that show all entries of a sketch."""

from unseendials.errors import BadLetter, Unlike
from unseendials.limits import greatest_table, least_table, sketch_spots
from unseendials.sketches import check_entry
from unseendials.tables import back_table, greater_table, lesser_table
from unseendials.words import is_capital, is_small
from unseendials.worlds import World, place_dict, table_dict


def _entry_dials(sketch):
    return sorted({letter.lower() for letter, _, _ in sketch.entry_list()})


def _sketch_dials(sketch, dials):
    """Return the dials of the sketch, those that are told besides included."""
    for letter in dials:
        if not is_small(letter):
            raise BadLetter(letter)
    return sorted(set([*_entry_dials(sketch), *sketch.facts.dial_list(), *dials]))


def _check_alike(sketch, world):
    known = world.dial_list()
    if sketch.steps != world.steps or sketch.facts != world.facts:
        raise Unlike()
    if not all([dial in known for dial in _entry_dials(sketch)]):
        raise Unlike()


def least_world(sketch, dials=()):
    """Return the world of the least completion."""
    spots = sketch_spots(sketch)
    tables = {dial: least_table(dial, spots, sketch) for dial in _sketch_dials(sketch, dials)}
    return World(sketch.steps, place_dict(sketch), tables, sketch.facts)


def greatest_world(sketch, dials=()):
    """Return the world of the greatest completion."""
    spots = sketch_spots(sketch)
    tables = {dial: greatest_table(dial, spots, sketch) for dial in _sketch_dials(sketch, dials)}
    return World(sketch.steps, place_dict(sketch), tables, sketch.facts)


def clamp(sketch, world):
    """Return the world with its tables brought between the least and the greatest ones."""
    _check_alike(sketch, world)
    spots = sketch_spots(sketch)
    tables = {}
    for dial, table in table_dict(world).items():
        lowered = lesser_table(greatest_table(dial, spots, sketch), table)
        tables[dial] = greater_table(least_table(dial, spots, sketch), lowered)
    return World(world.steps, place_dict(world), tables, world.facts)


def is_completion(sketch, world):
    """Return whether the world shows all entries of the sketch."""
    _check_alike(sketch, world)
    return all([world.table_of(letter)[at] == shown
                for letter, at, shown in sketch.entry_list()])


def stretch(sketch, letter, at):
    """Return the least and the greatest step that completions show there."""
    check_entry(sketch, letter, at, at)
    spots = sketch_spots(sketch)
    low = least_table(letter.lower(), spots, sketch)
    high = greatest_table(letter.lower(), spots, sketch)
    if is_capital(letter):
        # The more the dial shows, the less shows its back dial.
        return back_table(high)[at], back_table(low)[at]
    return low[at], high[at]
