"""Entries of runs: effects with numbers, and rows of them."""

from leastshelf.effects import IDLE, is_effect, normal, then
from leastshelf.kinds import check_kind, is_whole


def is_entry(kind, begin, end, thing):
    """Returns True if any value is an entry of a run of this kind with the window (begin, end)."""
    check_kind(kind)
    if not isinstance(thing, tuple) or len(thing) != 3:
        return False
    if not is_whole(thing[0]) or not begin < thing[0] <= end:
        return False
    effect = thing[1:]
    return is_effect(kind, effect) and effect != IDLE and normal(kind, effect) == effect


def is_entry_row(kind, begin, end, thing):
    """Returns True if any value is an entry row of such a run."""
    if not isinstance(thing, tuple) or not all([is_entry(kind, begin, end, entry) for entry in thing]):
        return False
    numbers = [number for number, _, _ in thing]
    return all([one < other for one, other in zip(numbers, numbers[1:])])


def effect_up_to(kind, row, number):
    """Returns the effect of the entries of a row with numbers of at most number."""
    effects = [(clear, word) for at, clear, word in row if at <= number]
    return then(kind, *effects)


def effects_up_to(kind, row, numbers):
    """Returns the list of the effects of an entry row up to each of some ascending numbers."""
    out = []
    effect = IDLE
    at = 0
    for number in numbers:
        effects = [effect]
        while at < len(row) and row[at][0] <= number:
            effects.append(row[at][1:])
            at += 1
        if len(effects) > 1:
            effect = then(kind, *effects)
        out.append(effect)
    return out
