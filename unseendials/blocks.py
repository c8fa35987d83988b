"""Worlds of coded claims, and worlds of the plain claims behind them."""

from unseendials.tables import still_table
from unseendials.worlds import World, place_dict, table_dict


def points_world(world, coded):
    """Return the world in which the dials of the code show the places of the points."""
    tables = table_dict(world)
    for point, dial in coded.told_letters:
        tables[dial] = [world.place_of(point)] * world.steps
    return World(world.steps, {"u": 0}, tables, world.facts)


def labels_world(world, claim, coded):
    """Return the world in which the dials of the code part the sides of the sayings."""
    values = {word: world(word) for word in claim.word_list()}
    tables = table_dict(world)
    many = world.steps
    if many == 1:
        # On one step nothing is parted from anything; on the new one all stands still.
        many = 2
        tables = {dial: still_table(many) for dial in tables}
    for label, dial in coded.told_letters:
        least = min([values[word] for word in claim.side_of(label)[0]], default=many)
        tables[dial] = [many - 1 if step >= least else 0 for step in range(many)]
    return World(many, place_dict(world), tables, world.facts)


def block_world(world, coded):
    """Return the world of the three dials for a world of the plain ones."""
    plain = [world.table_of(dial) for dial, _ in coded.told_letters]
    many = world.steps
    last = (len(plain) + 1) * many + 1
    inner = list(range(1, last))
    ahead = [min(step + many, last) for step in inner]
    behind = [max(step - many, 0) for step in inner]
    within = still_table(many + 1)[1:]
    for at, table in enumerate(plain, start=1):
        within.extend([at * many + 1 + shown for shown in table])
    tables = {"a": [0, *ahead, last], "b": [0, *within, last], "c": [0, *behind, last]}
    places = {point: step + 1 for point, step in place_dict(world).items()}
    return World(last + 1, places, tables)


def plain_world(world, coded, facts=None):
    """Return the world of the plain letters for a world of the coded ones."""
    new = [text for _, text in coded.told_letters]
    tables = table_dict(world)
    places = place_dict(world)
    if coded.kind in ("three", "two"):
        tables = {dial: world.head_table(head) for dial, head in coded.told_letters}
    else:
        tables = {dial: table for dial, table in tables.items() if dial not in new}
    if coded.kind == "points":
        places = {point: world(dial + "u") for point, dial in coded.told_letters}
    return World(world.steps, places, tables, facts)
