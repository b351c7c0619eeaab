"""What the states of a table must keep through a crash."""

from leastshelf.errors import BadMenu
from leastshelf.rightness import mapping
from leastshelf.tables import check_table, reached


def crash_step(menu):
    """Returns the number of the step ("crash", 0) of a menu; raises BadMenu."""
    steps = menu.steps()
    if ("crash", 0) not in steps:
        raise BadMenu(len(steps))
    return steps.index(("crash", 0))


def reached_states(table):
    """Returns the list of the reached states of a table, ascending."""
    return sorted([state for state, _ in reached(table)])


def kept_fault(menu, table, kept):
    """Returns None if the kept parts are in form, otherwise the first two states that are against it."""
    number = crash_step(menu)
    plain = check_table(table, len(menu.steps()))
    states = reached_states(plain)
    for at, i in enumerate(states):
        for j in states[at + 1:]:
            if kept[i] == kept[j] and plain[i][number][1] != plain[j][number][1]:
                return (i, j)
    return None


def kept_map(menu, table, kept):
    """Returns the list of the kept parts, ascending, each with the pieces of its store 0, or None."""
    if kept_fault(menu, table, kept) is not None:
        return None
    states = mapping(menu, table)
    if states is None or menu.full_pair() is not None:
        return None
    # in a full menu each class has the number of its state
    least = menu.states()
    found = {}
    for state in reached_states(table):
        found[kept[state]] = least[states[state]][0][0]
    return [(part, found[part]) for part in sorted(found)]
