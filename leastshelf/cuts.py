"""Marks, which say where someone can come back to, and the cuts that they make in a window."""

from leastshelf.errors import BadMark
from leastshelf.kinds import is_row, is_whole
from leastshelf.stretches import check_key, is_stretch


def is_mark(thing):
    """Returns True if any value is a mark."""
    if not isinstance(thing, tuple) or len(thing) != 3:
        return False
    return is_whole(thing[0]) and thing[0] >= 0 and is_stretch(thing[1:])


def check_marks(marks):
    """Returns the marks as a tuple; raises BadMark for any other value."""
    if not is_row(marks):
        raise BadMark(0)
    for place, thing in enumerate(marks):
        if not is_mark(thing):
            raise BadMark(place)
    return tuple(marks)


def cuts_of(begin, end, numbers):
    """Returns the list of the cuts of a window under marks with these numbers."""
    return [*sorted({number for number in numbers if begin < number < end}), end]


def cuts_at(begin, end, marks, key):
    """Returns the list of the cuts of the window at the key."""
    told = check_marks(marks)
    check_key(key)
    return cuts_of(begin, end, [number for number, a, b in told if a <= key < b])
