"""Keys and stretches of keys."""

from leastshelf.errors import BadKey, BadStretch
from leastshelf.kinds import is_whole

TOP = 1000000


def is_key(thing):
    """Returns True if any value is a key."""
    return is_whole(thing) and 0 <= thing < TOP


def is_stretch(thing):
    """Returns True if any value is a stretch."""
    if not isinstance(thing, tuple) or len(thing) != 2:
        return False
    a, b = thing
    return is_whole(a) and is_whole(b) and 0 <= a < b <= TOP


def check_key(key):
    """Returns the key; raises BadKey for any value that is no key."""
    if not is_key(key):
        raise BadKey(key)
    return key


def check_stretch(stretch, place=0):
    """Returns the stretch; raises BadStretch(place) for any value that is no stretch."""
    if not is_stretch(stretch):
        raise BadStretch(place)
    return stretch


def common_stretch(one, other):
    """Returns the common stretch of two stretches, or None."""
    a = max(one[0], other[0])
    b = min(one[1], other[1])
    if a < b:
        return (a, b)
    return None


def lies_within(one, other):
    """Returns True if the stretch one lies within the stretch other."""
    return other[0] <= one[0] and one[1] <= other[1]


def cut_at(stretch, border):
    """Returns the list of the one or two stretches that a border leaves."""
    a, b = stretch
    if a < border < b:
        return [(a, border), (border, b)]
    return [(a, b)]
