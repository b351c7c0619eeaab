"""Pouring and splitting the lots of a shelf."""

from leastshelf.cuts import check_marks
from leastshelf.leastruns import least_run
from leastshelf.orders import below, check_lots, lots_order, pour_order, split_order
from leastshelf.overlays import key_set
from leastshelf.shelves import Shelf, check_lot


def stack_of(shelf, lot):
    """Returns the stack of the lot, a list, the oldest run first."""
    places = check_lot(lot, len(shelf))
    return [shelf.run_at(place) for place in places[::-1]]


def keys_of(reaches, places):
    """Returns the key set of the keys that the places have."""
    return key_set([(a, b) for place in places for a, b, _ in reaches[place]])


def beneath(shelf, lot):
    """Returns the key set of the keys that the places below the lot have."""
    reaches = shelf.reaches()
    return keys_of(reaches, below(reaches, lot))


def in_place(shelf, lot, run):
    """Returns the shelf with the run as the outcome of the lot."""
    order = pour_order(shelf.reaches(), lot)
    return Shelf(shelf.kind, [run if place is None else shelf.run_at(place) for place in order])


def poured(shelf, lot, marks):
    """Returns the shelf with the lot poured under the marks."""
    stack = stack_of(shelf, lot)
    told = check_marks(marks)
    # raises NotClosed ahead of what the least run raises
    pour_order(shelf.reaches(), lot)
    return in_place(shelf, lot, least_run(stack, told, beneath(shelf, lot)))


def split_outcome(shelf, places, marks, a, b):
    """Returns the outcome of the gap (a, b) of a lot that is split."""
    held = [place for place in places if a in shelf.run_at(place)]
    stack = [shelf.run_at(place).within(a, b) for place in held[::-1]]
    behind = [place for place in range(held[-1] + 1, len(shelf)) if a in shelf.run_at(place)]
    return least_run(stack, marks, key_set([(a, b)] if behind else []))


def split_poured(shelf, lot, marks):
    """Returns the shelf with the lot split under the marks."""
    places = check_lot(lot, len(shelf))
    told = check_marks(marks)
    runs = []
    for entry in split_order(shelf.reaches(), lot):
        if isinstance(entry, tuple):
            _, a, b = entry
            runs.append(split_outcome(shelf, places, told, a, b))
        else:
            runs.append(shelf.run_at(entry))
    return Shelf(shelf.kind, runs)


def poured_lots(shelf, lots, marks):
    """Returns the shelf with all lots poured at once under the marks."""
    reaches = shelf.reaches()
    plain = {places[0]: places for places in check_lots(lots, len(shelf))}
    told = check_marks(marks)
    order = lots_order(reaches, lots)
    runs = []
    for spot, unit in enumerate(order):
        if unit in plain:
            behind = [place for other in order[spot + 1:] for place in plain.get(other, [other])]
            runs.append(least_run(stack_of(shelf, plain[unit]), told, keys_of(reaches, behind)))
        else:
            runs.append(shelf.run_at(unit))
    return Shelf(shelf.kind, runs)
