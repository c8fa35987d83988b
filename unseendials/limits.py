"""Limits: between which tables the dials of the completions of a sketch lie."""

from unseendials.spots import spot_of, spots_besides


def sketch_spots(sketch):
    """Return the spots of all entries of the sketch and of those that count besides."""
    read = [spot_of(letter, at, shown) for letter, at, shown in sketch.entry_list()]
    return spots_besides(sketch.steps, sketch.facts) + read


def least_table(dial, spots, sketch):
    """Return the table of the dial in the least completion."""
    floors = [0] * sketch.steps
    for part, back, across, up in spots:
        if not sketch.facts.under(part, dial):
            continue
        # A back dial tells where the dial has risen above a step, one step behind.
        at, floor = (across + 1, up + 1) if back else (across, up)
        if at < sketch.steps:
            floors[at] = max(floors[at], floor)
    return _running(floors, True)


def greatest_table(dial, spots, sketch):
    """Return the table of the dial in the greatest completion."""
    tops = [sketch.steps - 1] * sketch.steps
    for part, _, across, up in spots:
        if sketch.facts.under(dial, part):
            tops[across] = min(tops[across], up)
    return _running(tops[::-1], False)[::-1]


def _running(numbers, greatest):
    """Return for each place the greatest, or the least, of the numbers up to there."""
    table = []
    for number in numbers:
        last = table[-1] if table else number
        table.append(max(last, number) if greatest else min(last, number))
    return table
