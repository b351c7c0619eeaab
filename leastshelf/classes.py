"""The classes of the states of a table, and its least table."""

from leastshelf.tables import check_numbers, check_state, check_table, reached, step_count


def checked(table):
    """Returns any table as a list of lists; raises what step_count raises."""
    return check_table(table, step_count(table))


def numbered(marks):
    """Returns for each mark the number of the different marks ahead of its first place."""
    known = {}
    for mark in marks:
        if mark not in known:
            known[mark] = len(known)
    return [known[mark] for mark in marks]


def first_level(table):
    """Returns numbers for the states that are equal for equal answers to all single steps."""
    # answers may be tuples of anything, so they are compared and never used as keys
    rows = [[answer for answer, _ in line] for line in table]
    return numbered([rows.index(row) for row in rows])


def next_level(table, level):
    """Returns the numbers for rows of one more step."""
    marks = []
    for line, number in zip(table, level):
        marks.append((number, tuple([level[target] for _, target in line])))
    return numbered(marks)


def class_levels(table):
    """Returns a list; its entry n has equal numbers for states not parted by rows of n steps."""
    levels = [[0 for _ in table], first_level(table)]
    while len(set(levels[-2])) < len(set(levels[-1])):
        levels.append(next_level(table, levels[-1]))
    return levels


def class_numbers(table):
    """Returns for each state the number of its class, None if it is not reached."""
    plain = checked(table)
    level = class_levels(plain)[-1]
    known = {}
    out = [None for _ in plain]
    for state, _ in reached(plain):
        if level[state] not in known:
            known[level[state]] = len(known)
        out[state] = known[level[state]]
    return out


def least_table(table):
    """Returns the least table of a table, a list of lists."""
    plain = checked(table)
    numbers = class_numbers(plain)
    lines = []
    for state, _ in reached(plain):
        if numbers[state] == len(lines):
            lines.append([(answer, numbers[target]) for answer, target in plain[state]])
    return lines


def parting_row(table, one, other):
    """Returns the parting row of two states, or None if they are of one class."""
    plain = checked(table)
    left = check_state(plain, one)
    right = check_state(plain, other)
    levels = class_levels(plain)
    if levels[-1][left] == levels[-1][right]:
        return None
    many = 0
    while levels[many][left] == levels[many][right]:
        many += 1
    row = []
    while many > 1:
        many -= 1
        number = first_parted(plain, levels[many], left, right)
        row.append(number)
        left = plain[left][number][1]
        right = plain[right][number][1]
    return [*row, first_unequal(plain, left, right)]


def first_parted(table, level, left, right):
    """Returns the first step behind which the level has unequal numbers."""
    for number, (one, other) in enumerate(zip(table[left], table[right])):
        if level[one[1]] != level[other[1]]:
            return number
    return None


def first_unequal(table, left, right):
    """Returns the first step to which two states have unequal answers."""
    for number, (one, other) in enumerate(zip(table[left], table[right])):
        if one[0] != other[0]:
            return number
    return None


def without_steps(table, numbers):
    """Returns the table without the steps of a row of numbers, a list of lists."""
    plain = checked(table)
    steps = len(plain[0])
    check_numbers(numbers, steps)
    kept = [number for number in range(steps) if number not in numbers]
    return [[line[number] for number in kept] for line in plain]


def doubled(table, state):
    """Returns the table with a state doubled, a list of lists."""
    plain = checked(table)
    check_state(plain, state)
    return [*plain, list(plain[state])]
