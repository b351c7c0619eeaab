"""Where pouring a lot changes reads, and the entries of other runs by which they change."""

from leastshelf.effects import IDLE, is_effect, normal
from leastshelf.errors import BadKey, BadRun, NoPlace, NotClosed
from leastshelf.kinds import check_kind, plain_word
from leastshelf.noticed import parting_beneath
from leastshelf.orders import first_turned
from leastshelf.pours import keys_of, stack_of
from leastshelf.runs import Run
from leastshelf.shelves import Shelf, check_lot, check_place
from leastshelf.stretches import check_key


def check_outside(place, places, many):
    """Raises NoPlace for any value that is not an outside place of the lot with these places."""
    check_place(place, many)
    if place in places:
        raise NoPlace(place)


def turned_pair(reaches, lot, order):
    """Returns the first pair that a pour order turns, and its least common key, or None."""
    places = check_lot(lot, len(reaches))
    spots = {place: spot for spot, place in enumerate(order)}
    # places of the lot share one spot, so no two of them are turned
    for place in places:
        spots[place] = spots[None]
    return first_turned(reaches, spots)


def with_entry_at(kind, begin, end, reach, key, effect):
    """Returns a run with the number end and the effect at the key alone; without an entry if it is idle."""
    pieces = [] if effect == IDLE else [(key, key + 1, ((end, *effect),))]
    return Run(kind, begin, end, reach, pieces)


def pair_shelf(kind, reaches, i, j, key, *, puts=True):
    """Returns a shelf with these reaches; the places i and j alone have entries, one each, at the key."""
    check_kind(kind)
    many = len(reaches)
    for place in (i, j):
        check_place(place, many)
    for place in (i, j):
        if key not in reaches[place]:
            raise BadKey(key)
    words = {i: (1,), j: (2,)}
    runs = []
    for place, reach in enumerate(reaches):
        effect = normal(kind, (puts, plain_word(kind, words[place]))) if place in words else IDLE
        runs.append(with_entry_at(kind, many - 1 - place, many - place, reach, key, effect))
    return Shelf(kind, runs)


def checked_effects(kind, effects):
    """Returns the normal forms of the effects of some pairs by their places; raises BadRun."""
    out = {}
    for place, effect in effects:
        if not is_effect(kind, effect):
            raise BadRun(0)
        out[place] = normal(kind, effect)
    return out


def refilled(shelf, lot, key, effects):
    """Returns the shelf with no entries in the outside runs but for the pairs (place, effect) at the key."""
    places = check_lot(lot, len(shelf))
    check_key(key)
    for place, _ in effects:
        check_outside(place, places, len(shelf))
    told = checked_effects(shelf.kind, effects)
    runs = []
    for place, run in enumerate(shelf):
        if place in places:
            runs.append(run)
        else:
            effect = told.get(place, IDLE)
            # raises BadRun(0) too, if the key of the only piece is outside of the reach
            runs.append(with_entry_at(run.kind, run.begin, run.end, run.reach(), key, effect))
    return Shelf(shelf.kind, runs)


def parted_outcome(shelf, lot, run, marks):
    """Returns where neighbours and a run in their place part, and the put that shows it, or None."""
    places = check_lot(lot, len(shelf))
    for place in range(places[0], places[-1]):
        if place not in places:
            raise NotClosed(place)
    reaches = shelf.reaches()
    behind = list(range(places[-1] + 1, len(shelf)))
    told = parting_beneath(stack_of(shelf, lot), [run], marks, keys_of(reaches, behind))
    if told is None:
        return None
    key, cut, state = told
    if state == ():
        return (key, cut, [])
    # some place behind has the key, for nothing but () lies beneath other keys
    newest = [place for place in behind if key in reaches[place]][0]
    return (key, cut, [(newest, (True, state))])
