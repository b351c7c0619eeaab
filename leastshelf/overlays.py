"""Fields laid over one another, and key sets."""

from leastshelf.fields import Field
from leastshelf.stretches import check_stretch


def borders(fields):
    """Returns the list of the ends of all pieces of the fields, ascending, each once."""
    return sorted({end for field in fields for a, b, _ in field for end in (a, b)})


def thing_from(field, pieces, at, key):
    """Returns the thing of a key that no piece ahead of the place at reaches."""
    if at < len(pieces) and pieces[at][0] <= key:
        return pieces[at][2]
    return field.neutral


def gaps(fields):
    """Yields a tuple (a, b, things) for each gap, ascending."""
    rows = [field.pieces() for field in fields]
    places = [0 for _ in rows]
    ends = borders(fields)
    for a, b in zip(ends, ends[1:]):
        things = []
        for number, field in enumerate(fields):
            at = places[number]
            # no piece has a border within, so each gap needs one look ahead at most
            if at < len(rows[number]) and rows[number][at][1] <= a:
                at += 1
                places[number] = at
            things.append(thing_from(field, rows[number], at, a))
        yield (a, b, tuple(things))


def overlay(fields, act, *, neutral):
    """Returns the field of what act makes of the things in each gap."""
    return Field(neutral, [(a, b, act(things)) for a, b, things in gaps(fields)])


def unlike(one, other):
    """Returns the least key with unequal things and these, or None if the fields are equal."""
    if one == other:
        return None
    key = first_unlike_key(one.pieces(), other.pieces())
    return (key, one.at(key), other.at(key))


def first_unlike_key(lefts, rights):
    """Returns the first key that two unequal rows of pieces in one form give unequal things."""
    for (a, b, left), (c, d, right) in zip(lefts, rights):
        if a != c or left != right:
            return min(a, c)
        # what touches the shorter piece has another thing
        if b != d:
            return min(b, d)
    if len(lefts) > len(rights):
        return lefts[len(rights)][0]
    return rights[len(lefts)][0]


def key_set(stretches):
    """Returns the key set of the keys of a row of stretches; raises BadStretch."""
    for place, stretch in enumerate(stretches):
        check_stretch(stretch, place)
    pieces = []
    end = 0
    for a, b in sorted(stretches):
        if end < b:
            pieces.append((max(a, end), b, True))
            end = b
    return Field(False, pieces)


def union(one, other):
    """Returns the key set of the keys of one or both."""
    return overlay([one, other], lambda flags: flags[0] or flags[1], neutral=False)


def common(one, other):
    """Returns the key set of the keys of both."""
    return overlay([one, other], lambda flags: flags[0] and flags[1], neutral=False)


def without(one, other):
    """Returns the key set of the keys of one that are not in other."""
    return overlay([one, other], lambda flags: flags[0] and not flags[1], neutral=False)


def meeting(one, other):
    """Returns the least common key, or None."""
    for a, _, _ in common(one, other):
        return a
    return None
