"""Reports: printed tables."""

from unseendials.rows import row_count


def ranking_lines(ranking):
    """Return one line for each group of the ranking, the highest first."""
    lines = [f"{rank:>3} " + " = ".join(group) for rank, group in enumerate(ranking)]
    return lines[::-1]


def rows_lines(counts, steps):
    """Return the lines with the numbers of rows on chains of 1, 2, .. steps."""
    return [f"{many:>4}{row_count(counts, many):>12}" for many in range(1, steps + 1)]


def desk_lines(desk):
    """Return one line for each tell of the desk, and one that tells how many more it can take."""
    tells = desk.tell_list()
    lines = [f"{at:>3} {tell.first:<12}{tell.sign:<3}{tell.second}"
             for at, tell in enumerate(tells, start=1)]
    return [*lines, f"room {desk.room - len(tells)}"]
