"""Stacks: worlds on top of each other, chosen steps of a world, one chain for many claims."""

from unseendials.errors import BadStand, TooLarge, Unlike
from unseendials.facts import told_facts
from unseendials.sureness import failing_world
from unseendials.tables import still_table
from unseendials.words import dials_of
from unseendials.worlds import World, place_dict, table_dict

MOST_CLAIMS = 6


def _check_alike(worlds):
    if len(worlds) == 0:
        raise Unlike()
    first = worlds[0]
    for other in worlds:
        if other.dial_list() != first.dial_list() or other.facts != first.facts:
            raise Unlike()


def stack_list(worlds):
    """Return the stacked world of a list of worlds, and the first step of each block."""
    _check_alike(worlds)
    firsts = [sum([world.steps for world in worlds[:at]]) for at in range(len(worlds))]
    many = firsts[-1] + worlds[-1].steps
    tables = {dial: [first + shown for first, world in zip(firsts, worlds)
                     for shown in world.table_of(dial)] for dial in worlds[0].dial_list()}
    return World(many, {}, tables, worlds[0].facts), firsts


def stack(*worlds):
    """Return the stacked world of the worlds, and the first step of each block."""
    return stack_list(worlds)


def _check_chosen(world, chosen):
    """Raise BadStand unless the steps are chosen in order and every table leads them to such."""
    rising = all([chosen[at] < chosen[at + 1] for at in range(len(chosen) - 1)])
    known = all([0 <= step < world.steps for step in chosen])
    if len(chosen) == 0 or not rising or not known:
        raise BadStand(chosen)
    for letter in [*world.dial_list(), *world.facts.paired.upper()]:
        table = world.table_of(letter)
        if not all([table[step] in chosen for step in chosen]):
            raise BadStand(chosen)


def sub_world(world, chosen):
    """Return the world of the chosen steps, numbered anew."""
    steps = tuple(chosen)
    _check_chosen(world, steps)
    numbers = {step: at for at, step in enumerate(steps)}
    tables = {dial: [numbers[table[step]] for step in steps]
              for dial, table in table_dict(world).items()}
    places = {point: numbers[step] for point, step in place_dict(world).items() if step in numbers}
    return World(len(steps), places, tables, world.facts)


def _widened(world, dials):
    """Return the world with tables for all of the dials; new ones stand still."""
    tables = {dial: still_table(world.steps) for dial in dials}
    return World(world.steps, place_dict(world), {**tables, **table_dict(world)}, world.facts)


def _raised_places(first, world):
    """Return the places of the points of a world that begins at the step first."""
    return {point: first + step for point, step in place_dict(world).items()}


def one_for_all(claims, facts=None):
    """Return a world in which all claims fail that are not sure, and places for each of these."""
    known = told_facts(facts)
    if len(claims) > MOST_CLAIMS:
        raise TooLarge("claims")
    found = [failing_world(claim, known) for claim in claims]
    dials = dials_of([word for claim in claims for word in claim.word_list()])
    worlds = [_widened(world, dials) for world in found if world is not None]
    if sum([world.steps for world in worlds]) > World.MOST:
        raise TooLarge("steps")
    if len(worlds) == 0:
        return World.still(1, {}, *dials, facts=known), [None] * len(claims)
    whole, firsts = stack_list(worlds)
    rows = []
    for world in found:
        if world is None:
            rows.append(None)
        else:
            rows.append(_raised_places(firsts.pop(0), world))
    return whole, rows
