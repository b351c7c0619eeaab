"""Stacks of runs, and the rows of effects that they have at the cuts of a key."""

from leastshelf.cuts import check_marks, cuts_at, cuts_of
from leastshelf.effects import IDLE, STONE, then
from leastshelf.entries import effects_up_to
from leastshelf.errors import BadRun
from leastshelf.kinds import is_row
from leastshelf.overlays import gaps, key_set
from leastshelf.runs import Run
from leastshelf.stretches import check_key


def check_stack(stack):
    """Returns the stack as a list; raises BadRun for any other value."""
    if not is_row(stack) or len(stack) == 0:
        raise BadRun(0)
    for place, thing in enumerate(stack):
        if not isinstance(thing, Run) or thing.kind != stack[0].kind:
            raise BadRun(place)
    return list(stack)


def stack_window(stack):
    """Returns the window of a stack, a tuple."""
    runs = check_stack(stack)
    return (min([run.begin for run in runs]), max([run.end for run in runs]))


def stack_reach(stack):
    """Returns the reach of a stack."""
    runs = check_stack(stack)
    return key_set([(a, b) for run in runs for a, b, _ in run.reach()])


def stack_up_to(stack, key, number):
    """Returns the effect of a stack at a key up to a number."""
    runs = check_stack(stack)
    check_key(key)
    effects = [run.up_to(key, number) for run in runs]
    return then(runs[0].kind, *effects)


def effects_at_cuts(kind, rows, cuts):
    """Returns the list of the effects up to each cut of the entry rows of a stack at a key."""
    columns = [effects_up_to(kind, row, cuts) for row in rows]
    out = []
    told = IDLE
    before = ()
    for effects in zip(*columns):
        # most cuts lie in the window of one run, so the effects often are those of the cut before
        if effects != before:
            told = then(kind, *effects)
        out.append(told)
        before = effects
    return out


def ground(beneath):
    """Returns the effect ahead of all cuts; beneath tells if something may lie beneath the key."""
    return IDLE if beneath else STONE


def told_effects(kind, rows, cuts, beneath):
    """Returns the list of the effects of the told row of the entry rows of a stack at a key."""
    effects = effects_at_cuts(kind, rows, cuts)
    if beneath:
        return effects
    return [(True, word) for _, word in effects]


def row_at(stack, marks, key):
    """Returns the list of the pairs of a cut and the effect up to it at a key."""
    runs = check_stack(stack)
    begin, end = stack_window(runs)
    cuts = cuts_at(begin, end, marks, key)
    rows = [run.entries_at(key) for run in runs]
    return list(zip(cuts, effects_at_cuts(runs[0].kind, rows, cuts)))


def told_row(stack, marks, under, key):
    """Returns the told row at a key."""
    row = row_at(stack, marks, key)
    if key in under:
        return row
    return [(cut, (True, word)) for cut, (_, word) in row]


def told_rows(stack, marks, under):
    """Yields a tuple (a, b, told row) for each gap of the stack, ascending."""
    runs = check_stack(stack)
    told = check_marks(marks)
    begin, end = stack_window(runs)
    many = len(runs)
    layers = [run.contents() for run in runs] + [key_set([(a, b)]) for _, a, b in told]
    layers.append(under)
    for a, b, things in gaps(layers):
        cuts = cuts_of(begin, end, [mark[0] for mark, held in zip(told, things[many:-1]) if held])
        effects = told_effects(runs[0].kind, things[:many], cuts, things[-1])
        yield (a, b, list(zip(cuts, effects)))
