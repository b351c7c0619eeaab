"""Tables of states of any make: answers and next states."""

from leastshelf.errors import BadStep, BadTable, NoPlace
from leastshelf.kinds import is_row, is_whole


def is_number_below(thing, many):
    """Returns True if any value is an integer from 0 on that is less than many."""
    return is_whole(thing) and 0 <= thing < many


def is_table_entry(thing, states):
    """Returns True if any value is an entry of a table of so many states."""
    if not isinstance(thing, tuple) or len(thing) != 2:
        return False
    return isinstance(thing[0], tuple) and is_number_below(thing[1], states)


def is_line(thing, steps, states):
    """Returns True if any value is a line for so many steps of a table of so many states."""
    if not is_row(thing) or len(thing) != steps:
        return False
    return all([is_table_entry(entry, states) for entry in thing])


def check_table(table, steps):
    """Returns a table for this number of steps as a list of lists; raises BadTable."""
    if not is_row(table) or len(table) == 0:
        raise BadTable(0)
    for place, line in enumerate(table):
        if not is_line(line, steps, len(table)):
            raise BadTable(place)
    return [list(line) for line in table]


def step_count(table):
    """Returns the number of steps of a table; raises BadTable for any other value."""
    if not is_row(table) or len(table) == 0 or not is_row(table[0]):
        raise BadTable(0)
    check_table(table, len(table[0]))
    return len(table[0])


def check_state(table, state):
    """Returns the number of a state of a table; raises NoPlace for any other value."""
    if not is_number_below(state, len(table)):
        raise NoPlace(state)
    return state


def check_numbers(row, steps):
    """Raises BadStep with the place of the first entry that is not the number of a step."""
    for place, number in enumerate(row):
        if not is_number_below(number, steps):
            raise BadStep(place)


def run_table(table, row, *, start=0):
    """Returns the list of the answers along the row, from the state start on."""
    steps = step_count(table)
    state = check_state(table, start)
    check_numbers(row, steps)
    out = []
    for number in row:
        answer, state = table[state][number]
        out.append(answer)
    return out


def reached(table):
    """Yields a tuple of the state and its row for each reached state, in the order of their rows."""
    steps = step_count(table)
    rows = {0: []}
    states = [0]
    done = 0
    while done < len(states):
        state = states[done]
        yield (state, list(rows[state]))
        for number in range(steps):
            target = table[state][number][1]
            if target not in rows:
                rows[target] = [*rows[state], number]
                states.append(target)
        done += 1
