"""What goes from a stack when cuts or marks are let go."""

from leastshelf.cuts import check_marks
from leastshelf.errors import BadStretch, NoPlace
from leastshelf.fields import Field
from leastshelf.overlays import overlay
from leastshelf.rows import ground, told_row, told_rows
from leastshelf.stretches import check_stretch, lies_within
from leastshelf.tables import is_number_below


def change_count(told, beneath):
    """Returns how many effects of a told row are unequal to the one before."""
    many = 0
    before = ground(beneath)
    for _, effect in told:
        if effect != before:
            many += 1
        before = effect
    return many


def changes(stack, marks, under):
    """Returns the field of the changes."""
    rows = list(told_rows(stack, marks, under))
    return Field(0, [(a, b, change_count(told, a in under)) for a, b, told in rows])


def gone(stack, marks, under, left):
    """Returns the field of the changes under marks less those under left."""
    before = changes(stack, marks, under)
    behind = changes(stack, left, under)
    return overlay([before, behind], lambda many: many[0] - many[1], neutral=0)


def gone_at(stack, marks, under, key, cuts):
    """Returns by how many the changes at a key fall if some cuts are let go."""
    told = told_row(stack, marks, under, key)
    left = [(cut, effect) for cut, effect in told[:-1] if cut not in cuts]
    left.append(told[-1])
    return change_count(told, key in under) - change_count(left, key in under)


def spans_at(stack, marks, under, key):
    """Returns the list of the spans at a key, each its effect and the tuple of its cuts."""
    out = []
    for cut, effect in told_row(stack, marks, under, key):
        if out and out[-1][0] == effect:
            out[-1] = (effect, (*out[-1][1], cut))
        else:
            out.append((effect, (cut,)))
    return out


def check_mark_place(place, marks):
    """Raises NoPlace for any value that is not the place of a mark."""
    if not is_number_below(place, len(marks)):
        raise NoPlace(place)


def without_marks(marks, drop):
    """Returns the tuple of the marks that are not at the places in the row drop."""
    told = check_marks(marks)
    for entry in drop:
        check_mark_place(entry, told)
    return tuple([mark for place, mark in enumerate(told) if place not in drop])


def narrowed_marks(marks, place, a, b):
    """Returns the tuple of the marks, the one at the place narrowed to the stretch (a, b)."""
    told = check_marks(marks)
    check_mark_place(place, told)
    number, begin, end = told[place]
    if not lies_within(check_stretch((a, b)), (begin, end)):
        raise BadStretch(0)
    return (*told[:place], (number, a, b), *told[place + 1:])
