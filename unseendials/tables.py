"""Tables: lists that tell for each step of a chain the step that is shown there."""

from unseendials.checks import check_steps
from unseendials.errors import NotGrounded

MOST_WALKED = 8


def rising(table):
    """Return whether the list is a rising table of the chain with as many steps."""
    many = len(table)
    if many == 0 or table[0] < 0 or table[-1] >= many:
        return False
    return all([table[at] <= table[at + 1] for at in range(many - 1)])


def still_table(steps):
    """Return the table that shows each step at itself."""
    return list(range(steps))


def threshold(table, least):
    """Return the lowest step that shows at least the number least."""
    for at, shown in enumerate(table):
        if shown >= least:
            return at
    return len(table)


def back_table(table):
    """Return the back table of a grounded table."""
    if table[0] != 0:
        raise NotGrounded("")
    return [threshold(table, at + 1) - 1 for at in range(len(table))]


def put_on(outer, inner):
    """Return the table outer put on inner."""
    return [outer[shown] for shown in inner]


def lesser_table(one, other):
    """Return the lesser of two tables."""
    return [min(low, high) for low, high in zip(one, other)]


def greater_table(one, other):
    """Return the greater of two tables."""
    return [max(low, high) for low, high in zip(one, other)]


def walk_tables(steps):
    """Yield all rising tables on the chain, in order."""
    check_steps(steps, MOST_WALKED)
    table = [0] * steps
    yield list(table)
    while table[0] < steps - 1:
        # The next list in order raises the last number that can still be raised.
        at = max([place for place in range(steps) if table[place] < steps - 1])
        table = table[:at] + [table[at] + 1] * (steps - at)
        yield list(table)
