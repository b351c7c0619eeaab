"""Which cuts to keep where all marks are over all keys, so that few changes are left."""

from leastshelf.cuts import cuts_at
from leastshelf.errors import BadLimit, TooMany
from leastshelf.kinds import is_whole
from leastshelf.rows import ground, stack_window, told_rows
from leastshelf.stretches import TOP


def marks_over_all(numbers):
    """Returns the marks with these numbers over all keys."""
    return [(number, 0, TOP) for number in numbers]


def cuts_everywhere(stack, numbers):
    """Returns the list of the cuts, which are the same at each key."""
    begin, end = stack_window(stack)
    return cuts_at(begin, end, marks_over_all(numbers), 0)


def add_unequal(table, effects, keys):
    """Adds the keys to the weight of each two unequal effects."""
    # effects may have long words, so each is looked at once and told by a number from there on
    numbers = [effects.index(effect) for effect in effects]
    for i, one in enumerate(numbers):
        for j, other in enumerate(numbers):
            if one != other:
                table[i][j] += keys


def weights(stack, under, numbers):
    """Returns the list of the rows of the weights."""
    many = len(cuts_everywhere(stack, numbers)) + 1
    table = [[0 for _ in range(many)] for _ in range(many)]
    marks = marks_over_all(numbers)
    for a, b, told in told_rows(stack, marks, under):
        add_unequal(table, [ground(a in under), *[effect for _, effect in told]], b - a)
    return table


def spare_rows(table):
    """Returns the list of the rows of the spare table for a table of weights."""
    many = len(table)
    rows = [[0, *[None for _ in range(many - 1)]]]
    while len(rows) < many:
        before = rows[-1]
        rows.append([least_sum(before, table, j) for j in range(many)])
    return rows


def least_sum(before, table, j):
    """Returns the least sum of an entry of the row before and its weight to j, None if there is none."""
    return min([before[i] + table[i][j] for i in range(j) if before[i] is not None], default=None)


def spare_table(stack, under, numbers):
    """Returns the list of the rows of the spare table."""
    return spare_rows(weights(stack, under, numbers))


def kept_places(table, rows, many):
    """Returns the indexes of the kept cuts for many of them, ascending."""
    j = len(table) - 1
    out = []
    for t in range(many, 0, -1):
        out.append(j)
        before = rows[t - 1]
        sums = [None if before[i] is None else before[i] + table[i][j] for i in range(j)]
        j = sums.index(rows[t][j])
    return out[::-1]


def kept_cuts(stack, under, numbers, many):
    """Returns the list of the kept cuts for many of them, ascending."""
    table = weights(stack, under, numbers)
    if not is_whole(many) or not 1 <= many < len(table):
        raise BadLimit(many)
    cuts = cuts_everywhere(stack, numbers)
    return [cuts[place - 1] for place in kept_places(table, spare_rows(table), many)]


def fewest_to_drop(stack, under, numbers, entries):
    """Returns the list of the fewest cuts to let go so that so many changes go, ascending."""
    table = weights(stack, under, numbers)
    rows = spare_rows(table)
    last = len(table) - 1
    if entries > rows[last][last] - rows[1][last]:
        raise TooMany(rows[last][last] - rows[1][last])
    many = max([t for t in range(1, last + 1) if rows[last][last] - rows[t][last] >= entries])
    kept = kept_places(table, rows, many)
    return [cut for place, cut in enumerate(cuts_everywhere(stack, numbers), 1) if place not in kept]
