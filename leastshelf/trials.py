"""Trials: blocks behind which a desk is as it was ahead of them."""

from leastshelf.deeds import plain_step
from leastshelf.errors import Closed
from leastshelf.kinds import is_row


class Trial:
    """A trial of a desk: behind its block, the desk is as it was when the block was entered."""

    def __init__(self, desk):
        self._desk = desk
        self._state = None
        self._entered = False

    @property
    def entered(self):
        """True once the block was entered."""
        return self._entered

    def __enter__(self):
        if self._entered:
            raise Closed()
        self._entered = True
        self._state = self._desk._state
        return self._desk

    def __exit__(self, kind, value, trace):
        desk = self._desk
        desk._state = self._state


def done_more(desk, step):
    """Does a deed of a desk that no book has, or a trial, and returns its answer; None for another value."""
    if not isinstance(step, tuple) or len(step) not in (1, 2) or not isinstance(step[0], str):
        return None
    if step[0] == "spill" and len(step) == 1:
        desk.spill()
        return ("done",)
    if len(step) == 1:
        return None
    if step[0] == "pour":
        desk.pour(step[1])
        return ("done",)
    if step[0] == "split":
        desk.pour_split(step[1])
        return ("done",)
    if step[0] == "trial" and is_row(step[1]):
        return ("tried", tuple(tried(desk, step[1])))
    return None


def tried(desk, steps):
    """Does a row of steps with a desk in a trial and returns the list of the answers; raises BadStep."""
    out = []
    with Trial(desk) as held:
        for place, step in enumerate(steps):
            told = done_more(held, step)
            out.append(held.answer(plain_step(held.kind, step, place)) if told is None else told)
    return out
