"""Cut worlds: worlds that bear the mirror of what fails, and the numbers that make them."""

from unseendials.checks import check_steps
from unseendials.errors import BadPlace
from unseendials.tables import threshold
from unseendials.turning import turned_letters
from unseendials.words import is_point
from unseendials.worlds import World


def _cut_table(table):
    """Return the table of the cut world for the table of the world."""
    many = len(table)
    return [many - threshold(table, many - step) for step in range(many + 1)]


def cut_world(world, numbers):
    """Return the cut world with the numbers of the labels."""
    many = world.steps
    for label, number in numbers.items():
        if not is_point(label) or not 0 <= number <= many:
            raise BadPlace(label, number)
    check_steps(many + 1, World.MOST)
    facts = world.facts
    tables = {dial: _cut_table(world.table_of(turned_letters(dial, facts)))
              for dial in world.dial_list()}
    places = {label: many - number for label, number in numbers.items()}
    return World(many + 1, places, tables, facts.mirrored())


def point_numbers(world):
    """Return for each point the number of steps minus its place."""
    return {point: world.steps - world.place_of(point) for point in world.point_list()}


def failing_numbers(claim, world):
    """Return the numbers of the labels with which the mirror fails in the cut world, or None."""
    if claim.holds_in(world):
        return None
    numbers = {}
    for label in claim.label_list():
        values = [world(word) for word in claim.side_of(label)[0]]
        numbers[label] = min(values, default=world.steps)
    return numbers
