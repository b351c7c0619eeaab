"""The least run of a stack, and how many entries and letters a run has."""

from leastshelf.errors import Unordered
from leastshelf.overlays import gaps, key_set
from leastshelf.rows import ground, stack_reach, stack_window, told_rows
from leastshelf.runs import Run
from leastshelf.steps import step
from leastshelf.stretches import TOP


def least_row(kind, told, beneath):
    """Returns the entry row of the least run for a told row, or None if a step does not exist."""
    out = []
    before = ground(beneath)
    for cut, effect in told:
        if effect != before:
            taken = step(kind, before, effect)
            if taken is None:
                return None
            out.append((cut, *taken))
        before = effect
    return tuple(out)


def least_run(stack, marks, under):
    """Returns the least run of a stack; raises Unordered if there is none."""
    begin, end = stack_window(stack)
    kind = stack[0].kind
    pieces = []
    for a, b, told in told_rows(stack, marks, under):
        row = least_row(kind, told, a in under)
        if row is None:
            raise Unordered(a)
        pieces.append((a, b, row))
    return Run(kind, begin, end, stack_reach(stack), pieces)


def letters_of(row):
    """Returns the number of letters of the words of an entry row, together."""
    return sum([len(word) for _, _, word in row])


def entry_count(run, key):
    """Returns the number of entries of a run at a key."""
    return len(run.entries_at(key))


def letter_count(run, key):
    """Returns the number of letters of a run at a key."""
    return letters_of(run.entries_at(key))


def whole_counts(run, *, over=None):
    """Returns the numbers of entries and of letters of a run, added over the keys of a key set."""
    keys = key_set([(0, TOP)]) if over is None else over
    layers = [run.contents(), keys]
    entries = 0
    letters = 0
    for a, b, (row, held) in gaps(layers):
        if held:
            entries += (b - a) * len(row)
            letters += (b - a) * letters_of(row)
    return (entries, letters)
