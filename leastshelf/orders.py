"""Orders of the runs of a shelf, told by their reaches, and where lots may be poured."""

from leastshelf.errors import NoPlace, NotClosed, Sandwiched
from leastshelf.overlays import gaps, meeting
from leastshelf.shelves import check_lot, check_place


def stands_over(reaches, i, j):
    """Returns the least common key if place i stands over place j, otherwise None."""
    check_place(i, len(reaches))
    check_place(j, len(reaches))
    if i >= j:
        return None
    return meeting(reaches[i], reaches[j])


def places_under(reaches):
    """Returns for each place the list of the places over which it stands, ascending."""
    many = len(reaches)
    return [[j for j in range(i + 1, many) if meeting(reaches[i], reaches[j]) is not None] for i in range(many)]


def first_turned(reaches, spots):
    """Returns the first pair of which the lower place has the lesser spot, and its least common key, or None."""
    for i in range(len(reaches)):
        for j in range(i + 1, len(reaches)):
            if spots[j] < spots[i]:
                key = meeting(reaches[i], reaches[j])
                if key is not None:
                    return (i, j, key)
    return None


def kept(reaches, order):
    """Returns None if the order keeps all reads, otherwise the first pair that it turns, and a key."""
    return first_turned(reaches, {place: spot for spot, place in enumerate(order)})


def below(reaches, lot):
    """Returns the list of the places below the lot, ascending."""
    places = check_lot(lot, len(reaches))
    deep = set()
    for place, lower in enumerate(places_under(reaches)):
        # ways lead to greater places alone, so whatever leads to this one was met before
        if place in places or place in deep:
            for other in lower:
                deep.add(other)
    return [place for place in sorted(deep) if place not in places]


def shortest_way(nexts, start, inner, goals):
    """Returns the least of the shortest ways from start over one or more inner ones to a goal, or None."""
    seen = set()
    ways = [[start]]
    # ways of one length ascend, so the first one to come to anything is the least to do so
    while ways:
        longer = []
        for way in list(ways):
            for place in nexts[way[-1]]:
                if place in goals and len(way) > 1:
                    return [*way, place]
                if place in inner and place not in seen:
                    seen.add(place)
                    longer.append([*way, place])
        ways = longer
    return None


def first_shortest(ways):
    """Returns the first of the shortest ways in a row, None if all entries are None."""
    best = None
    for way in ways:
        if way is not None and (best is None or len(way) < len(best)):
            best = way
    return best


def way_back(reaches, lot):
    """Returns None if the lot is closed, otherwise the least of the shortest ways back."""
    places = check_lot(lot, len(reaches))
    nexts = places_under(reaches)
    outside = [place for place in range(len(reaches)) if place not in places]
    return first_shortest([shortest_way(nexts, place, outside, places) for place in places])


def pour_order(reaches, lot):
    """Returns the pour order, with None for the outcome; raises NotClosed."""
    back = way_back(reaches, lot)
    if back is not None:
        raise NotClosed(back[1])
    deep = below(reaches, lot)
    high = [place for place in range(len(reaches)) if place not in deep and place not in lot]
    return [*high, None, *deep]


def sandwich(places, held):
    """Returns the least a, x and b with a < x < b of those that have a key, a and b of the lot, or None."""
    lot = [place for place in held if place in places]
    others = [place for place in held if place not in places and place > lot[0]]
    for x in others:
        under_it = [place for place in lot if place > x]
        if under_it:
            return (lot[0], x, under_it[0])
    return None


def held_gaps(reaches, places):
    """Returns the list of the gaps that some run of the lot has, each with the places that have it."""
    rows = []
    for a, b, flags in gaps(reaches):
        held = [place for place, flag in enumerate(flags) if flag]
        if [place for place in held if place in places]:
            rows.append((a, b, held))
    return rows


def sandwiched(reaches, lot):
    """Returns the least sandwiched key with its places a, x and b, or None."""
    places = check_lot(lot, len(reaches))
    for a, _, held in held_gaps(reaches, places):
        told = sandwich(places, held)
        if told is not None:
            return (a, *told)
    return None


def split_order(reaches, lot):
    """Returns the places and outcomes of a shelf with the lot split; raises Sandwiched."""
    told = sandwiched(reaches, lot)
    if told is not None:
        raise Sandwiched(told[0])
    places = check_lot(lot, len(reaches))
    outcomes = {place: [] for place in places}
    for a, b, held in held_gaps(reaches, places):
        newest = [place for place in held if place in places][0]
        outcomes[newest].append((newest, a, b))
    out = []
    for place, reach in enumerate(reaches):
        if place in outcomes and len(reach) > 0:
            out.extend(outcomes[place])
        else:
            out.append(place)
    return out


def check_lots(lots, many):
    """Returns the list of the lots, each as a list of its places, ascending; raises NoPlace."""
    plain = [check_lot(lot, many) for lot in lots]
    taken = set()
    for places in plain:
        for place in places:
            if place in taken:
                raise NoPlace(place)
            taken.add(place)
    return plain


def units_of(plain, many):
    """Returns the units, ascending: a dict from their numbers to the lists of their places."""
    taken = [place for places in plain for place in places]
    outside = [[place] for place in range(many) if place not in taken]
    return {places[0]: places for places in sorted([*plain, *outside])}


def units_under(reaches, units):
    """Returns for each unit the list of the units over which it stands, ascending."""
    lower = places_under(reaches)
    unit_at = {place: unit for unit, places in units.items() for place in places}
    out = {}
    for unit, places in units.items():
        met = sorted({unit_at[other] for place in places for other in lower[place]})
        out[unit] = [other for other in met if other != unit]
    return out


def first_ring(nexts):
    """Returns the least of the shortest rings of units, or None."""
    # a ring is found from each of its units; units ascend, so it is first found from its least one
    way = first_shortest([shortest_way(nexts, unit, nexts, [unit]) for unit in nexts])
    if way is None:
        return None
    return way[:-1]


def ring(reaches, lots):
    """Returns the least of the shortest rings of the units, the least unit first, or None."""
    units = units_of(check_lots(lots, len(reaches)), len(reaches))
    return first_ring(units_under(reaches, units))


def lots_order(reaches, lots):
    """Returns the list of all units in an order that keeps all reads; raises NotClosed."""
    units = units_of(check_lots(lots, len(reaches)), len(reaches))
    nexts = units_under(reaches, units)
    around = first_ring(nexts)
    if around is not None:
        raise NotClosed(around[0])
    left = list(units)
    out = []
    while left:
        covered = [other for unit in left for other in nexts[unit]]
        free = [unit for unit in left if unit not in covered]
        out.append(free[0])
        left.remove(free[0])
    return out
