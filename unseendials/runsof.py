"""Runs of plain words, and the fewest readings of a world that show what a word has there."""

from unseendials.errors import BadStand, NotPlain
from unseendials.words import check_word, is_small


def _check_plain(word, world):
    """Raise an error unless the word is plain in the world and has a value there."""
    check_word(word)
    dials = word[:-1]
    facts = world.facts
    small = all([is_small(dial) for dial in dials])
    once = len(set(dials)) == len(dials)
    if dials == "" or not small or not once or len(facts) > 0 or facts.paired != "":
        raise NotPlain(word)
    world(word)


def _run(dials, world, step):
    """Return the steps that the dials lead to from the step, the last dial first."""
    run = [step]
    for dial in reversed(dials):
        run.append(world.table_of(dial)[run[-1]])
    return run


def _checked_run(word, world, start, step):
    _check_plain(word, world)
    if not 0 <= start <= len(word) - 1:
        raise BadStand(start)
    return _run(word[:start], world, step)


def low_run(word, world, start):
    """Return the low run of the plain word from that many dials."""
    return _checked_run(word, world, start, 0)


def high_run(word, world, start):
    """Return the high run of the plain word from that many dials."""
    return _checked_run(word, world, start, world.steps - 1)


def _met(dials, world, step):
    """Return the entries that the run of the dials from the step meets."""
    run = _run(dials, world, step)
    return [(dial, at, shown) for dial, at, shown in zip(reversed(dials), run, run[1:])]


def _value_entries(word, world):
    """Return the entries on the way to the value of the word."""
    return _met(word[:-1], world, world.place_of(word[-1]))


def _fitting(word, world, step):
    """Return what the runs meet that begin at the step and fit, run by run."""
    value = world(word)
    return [_met(word[:start], world, step) for start in range(len(word))
            if _run(word[:start], world, step)[-1] == value]


def fewest_readings(word, world):
    """Return a paper for the plain word with as few entries as possible."""
    _check_plain(word, world)
    papers = [_value_entries(word, world)]
    for low in _fitting(word, world, 0):
        for high in _fitting(word, world, world.steps - 1):
            papers.append(low + high)
    return min([sorted(set(paper)) for paper in papers], key=len)


def floor_readings(word, world):
    """Return as few entries as possible from which the plain word has at least its value."""
    _check_plain(word, world)
    return sorted(min([*_fitting(word, world, 0), _value_entries(word, world)], key=len))
