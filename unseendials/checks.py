"""Checks of chains and places that several modules make."""

from unseendials.errors import BadPlace, BadSteps
from unseendials.words import is_point


def check_steps(many, most):
    """Raise BadSteps unless many is from 1 to most."""
    if not 1 <= many <= most:
        raise BadSteps(many)


def check_places(places, steps):
    """Raise BadPlace for the first key that is no point or whose place is no step."""
    for point, stand in places.items():
        if not is_point(point) or not 0 <= stand < steps:
            raise BadPlace(point, stand)
