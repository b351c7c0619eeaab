"""Which tables are right for a menu, and how their states map onto its classes."""

from leastshelf.classes import least_table, parting_row
from leastshelf.tables import check_table, reached


def side_by_side(one, other):
    """Returns a table with the states of both tables, those of other behind those of one."""
    many = len(one)
    return [*one, *[[(answer, target + many) for answer, target in line] for line in other]]


def erring(menu, table):
    """Returns the erring row of a table, a list, or None if it is right for the menu."""
    plain = check_table(table, len(menu.steps()))
    own = least_table(menu.table())
    return parting_row(side_by_side(own, plain), 0, len(own))


def mapping(menu, table):
    """Returns for each state the class that it is mapped to, or None if the table is not right."""
    if erring(menu, table) is not None:
        return None
    own = least_table(menu.table())
    out = [None for _ in table]
    out[0] = 0
    # a state comes behind the one from which it was first reached, so its class is known by then
    for state, _ in reached(table):
        line = own[out[state]]
        for (_, own_target), (_, target) in zip(line, table[state]):
            out[target] = own_target
    return out
