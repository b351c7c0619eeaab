"""Lots whose entries are told, poured between the other runs of a shelf."""

from leastshelf.effects import IDLE, STONE, then
from leastshelf.entries import effect_up_to
from leastshelf.errors import NotClosed
from leastshelf.kinds import fresh_word
from leastshelf.noticed import parting_beneath
from leastshelf.overlays import gaps, meeting
from leastshelf.partings import check_outside
from leastshelf.pours import stack_of
from leastshelf.rows import stack_reach, stack_window
from leastshelf.runs import Run
from leastshelf.shelves import Shelf, check_lot
from leastshelf.swaps import parting_word, swallowed


def parted_outside(shelf, lot, upper):
    """Returns the places of the lot, the upper and the lower ones, ascending; raises NoPlace and NotClosed."""
    many = len(shelf)
    places = check_lot(lot, many)
    for entry in upper:
        check_outside(entry, places, many)
    high = sorted(set(upper))
    low = [place for place in range(many) if place not in places and place not in high]
    reaches = shelf.reaches()
    for place in low:
        covered = [other for other in high if other > place and meeting(reaches[place], reaches[other]) is not None]
        if covered:
            raise NotClosed(place)
    return (places, high, low)


def told_gaps(shelf, places):
    """Returns a list of tuples (key, end, places that have the gap, whole effects of the lot by places)."""
    many = len(shelf)
    layers = [*shelf.reaches(), *[shelf.run_at(place).contents() for place in places]]
    out = []
    for a, b, things in gaps(layers):
        held = [place for place in range(many) if things[place]]
        effects = {}
        for place, row in zip(places, things[many:]):
            effects[place] = effect_up_to(shelf.kind, row, shelf.run_at(place).end)
        out.append((a, b, held, effects))
    return out


def between(kind, effects, newer, older):
    """Returns the effect of the lot at a key behind the place newer and ahead of the place older."""
    row = [effects[place] for place in sorted(effects, reverse=True) if newer < place < older]
    return then(kind, *row)


def newest_lower(held, effects, low):
    """Returns the newest lower place that has a key, or None if no place of the lot behind it has it."""
    lower = [place for place in held if place in low]
    if lower and [place for place in held if place in effects and place > lower[0]]:
        return lower[0]
    return None


def group_outcome(shelf, lot, upper):
    """Returns the group outcome of a lot that is poured between the upper and the lower places."""
    places, _, low = parted_outside(shelf, lot, upper)
    stack = stack_of(shelf, lot)
    begin, end = stack_window(stack)
    pieces = []
    for a, b, held, effects in told_gaps(shelf, places):
        x = newest_lower(held, effects, low)
        effect = between(shelf.kind, effects, -1, len(shelf) if x is None else x)
        pieces.append((a, b, () if effect == IDLE else ((end, *effect),)))
    return Run(shelf.kind, begin, end, stack_reach(stack), pieces)


def group_poured(shelf, lot, upper):
    """Returns the shelf with the lot poured between the upper and the lower places."""
    _, high, low = parted_outside(shelf, lot, upper)
    outcome = group_outcome(shelf, lot, upper)
    newer = [shelf.run_at(place) for place in high]
    return Shelf(shelf.kind, [*newer, outcome, *[shelf.run_at(place) for place in low]])


def fault_above(kind, effects, uppers):
    """Returns effects that show what the lot does above the upper places that have a key, or None."""
    if not uppers:
        return None
    newer = between(kind, effects, -1, uppers[-1])
    if newer == IDLE:
        return None
    # the lot changes what the oldest upper place puts; once the lot is poured below, that is read as it is
    shown = (True, fresh_word(kind)) if newer == STONE else STONE
    return [(uppers[-1], shown)]


def part(place, word):
    """Returns the row of the pair of a place and the part of a word, without it if the word is ()."""
    return [] if word == () else [(place, (False, word))]


def fault_below(kind, effects, lowers, word, many):
    """Returns effects that show what the lot does behind the newest lower place that has a key, or None."""
    for newer, older in zip(lowers, lowers[1:]):
        clears, lost = between(kind, effects, newer, older)
        if clears:
            return [(older, (True, fresh_word(kind, lost, word)))]
        if not swallowed(kind, lost, word):
            return [*part(newer, parting_word(kind, lost, word)), (older, STONE)]
    lost = between(kind, effects, lowers[-1], many)[1]
    if not swallowed(kind, lost, word):
        return part(lowers[-1], parting_word(kind, lost, word))
    return None


def fault_at(shelf, held, effects, high, low):
    """Returns effects of outside places that show at a key that reads are not kept, or None."""
    kind = shelf.kind
    above = fault_above(kind, effects, [place for place in held if place in high])
    if above is not None:
        return above
    x = newest_lower(held, effects, low)
    if x is None:
        return None
    clears, word = between(kind, effects, -1, x)
    if clears:
        return None
    return fault_below(kind, effects, [place for place in held if place in low], word, len(shelf))


def group_fault(shelf, lot, upper):
    """Returns None if the lot poured between keeps the reads of now, otherwise a key and effects that show it."""
    places, high, low = parted_outside(shelf, lot, upper)
    for a, _, held, effects in told_gaps(shelf, places):
        shown = fault_at(shelf, held, effects, high, low)
        if shown is not None:
            return (a, shown)
    return None


def swapped_parting(one, other, marks, under):
    """Returns where the stack of two runs and that of the same runs in the other order part, or None."""
    return parting_beneath([one, other], [other, one], marks, under)
