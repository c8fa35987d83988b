"""Papers: entries of a world that show the value of a word, and papers made thin."""

from unseendials.completions import greatest_world, least_world
from unseendials.errors import BadEntry, NoPairs
from unseendials.fitting import fitting_tails
from unseendials.sketches import Sketch
from unseendials.words import dials_of, is_capital


def _told_entries(entries, word, world):
    """Return the different entries in order; raise an error if they cannot be a paper."""
    rows = [(dial, at, shown) for dial, at, shown in entries]
    for tail in fitting_tails([word], world.facts):
        if is_capital(tail[0]):
            raise NoPairs(tail[0])
    world(word)
    known = world.dial_list()
    for dial, at, shown in rows:
        if dial not in known or not 0 <= at < world.steps or world.table_of(dial)[at] != shown:
            raise BadEntry(dial, at, shown)
    return list({row: True for row in rows})


class Paper:
    """Looks at what a word shows by entries of a world, told by their numbers."""

    def __init__(self, entries, word, world):
        facts = world.facts
        dials = dials_of([word])
        empty = Sketch(world.steps, facts)
        least = least_world(empty, dials)
        greatest = greatest_world(empty, dials)
        self._way = word[:-1][::-1]
        self._place = world.place_of(word[-1])
        self._least = {dial: least.table_of(dial) for dial in dials}
        self._greatest = {dial: greatest.table_of(dial) for dial in dials}
        rows = [(number, *entry) for number, entry in enumerate(entries)]
        self._lows = {dial: [row for row in rows if facts.under(row[1], dial)] for dial in dials}
        self._highs = {dial: [row for row in rows if facts.under(dial, row[1])] for dial in dials}

    def is_enough(self, kept):
        """Return whether the word has one value by the entries whose numbers are kept."""
        low = high = self._place
        for dial in self._way:
            floors = [shown for number, _, at, shown in self._lows[dial]
                      if at <= low and kept[number]]
            tops = [shown for number, _, at, shown in self._highs[dial]
                    if at >= high and kept[number]]
            low = max([self._least[dial][low], *floors])
            high = min([self._greatest[dial][high], *tops])
        return low == high


def is_paper(entries, word, world):
    """Return whether the entries are a paper for the word."""
    rows = _told_entries(entries, word, world)
    return Paper(rows, word, world).is_enough([True] * len(rows))


def thin_paper(entries, word, world):
    """Return the entries that are left when the paper is made thin, or None if it is none."""
    rows = _told_entries(entries, word, world)
    paper = Paper(rows, word, world)
    kept = [True] * len(rows)
    if not paper.is_enough(kept):
        return None
    for number in range(len(rows)):
        kept[number] = False
        if not paper.is_enough(kept):
            kept[number] = True
    return [row for row, keep in zip(rows, kept) if keep]
