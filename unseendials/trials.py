"""Trials: a desk is told and asked for a while, and then is as it was."""


class Trial:
    """What a with block does to the tells and the room of the desk ends with the block."""

    def __init__(self, desk):
        self._desk = desk
        self._tells = ()
        self._room = 0

    def __enter__(self):
        self._tells = self._desk._tells
        self._room = self._desk._room
        return self._desk

    def __exit__(self, kind, value, trace):
        self._desk._tells = self._tells
        self._desk._room = self._room


def what_if(desk, claim, *, room=None, undone=0, telling=()):
    """Return the verdict that the claim would get on the desk in another state."""
    with Trial(desk) as tried:
        if room is not None:
            tried.set_room(room)
        for _ in range(undone):
            tried.undo()
        for comparison in telling:
            tried.tell(comparison)
        return tried.ask(claim).verdict
