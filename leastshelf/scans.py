"""Scans: the pieces of a stretch of a desk or a book, of now or of a view."""

from leastshelf.deeds import is_name
from leastshelf.errors import BadLimit, BadName, Outside
from leastshelf.fields import Field
from leastshelf.kinds import is_whole
from leastshelf.stretches import check_stretch, lies_within


def pieces_for(desk, stretch, name):
    """Returns the list of the pieces of the store of now, or of the view of a name that has the stretch."""
    if name is None:
        return desk.store()
    if not is_name(name):
        raise BadName(name)
    a, b, pieces = desk.view(name)
    if not lies_within(stretch, (a, b)):
        raise Outside(name)
    return pieces


def scan(desk, begin, end, *, name=None, backward=False, limit=None):
    """Returns the list of the pieces of a stretch, of the store of now or of a view."""
    stretch = check_stretch((begin, end))
    found = pieces_for(desk, stretch, name)
    if limit is not None and (not is_whole(limit) or limit < 0):
        raise BadLimit(limit)
    pieces = Field((), found).within(begin, end).pieces()
    if backward:
        pieces = pieces[::-1]
    return pieces if limit is None else pieces[:limit]


def walk(desk, begin, end, *, name=None):
    """Yields the pieces of a stretch, ascending, of the store of now or of a view."""
    yield from scan(desk, begin, end, name=name)
