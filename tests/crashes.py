"""Rows of steps of a device, and slow, plain ways to say what is told of them."""

import itertools


def noted_at(steps):
    """Returns the number of the last note."""
    return max([number for word, number, *_ in steps if word == "note"], default=0)


def told_at(steps):
    """Returns the number of the last tell."""
    return max([number for word, number, *_ in steps if word == "tell"], default=0)


def lasting_at(steps):
    """Returns what the number of the last note was at the last firm of the log."""
    firms = [place for place, step in enumerate(steps) if step == ("firm", "log")]
    return noted_at(steps[:firms[-1]]) if firms else 0


def files_of(steps, word):
    """Returns the files of the steps of a word."""
    return [step[1] for step in steps if step[0] == word]


def sheets_of(steps):
    """Returns the last lasting sheet and the newer ones, the oldest first."""
    sheets = [(0, ())]
    first = 0
    for step in steps:
        if step[0] == "list":
            sheets.append(step[1:])
        if step == ("firm", "sheet"):
            first = len(sheets) - 1
    return sheets[first:]


def states_of(steps, file):
    """Returns the states in which a crash can leave a file."""
    states = ["whole"]
    if ("firm", file) not in steps:
        states.append("broken")
    if ("clear", file) in steps:
        states.append("gone")
    return states


def left_devices(steps):
    """Returns all left devices of the moment behind all steps, as point 109 says it; some may come twice."""
    trims = [0] + files_of(steps, "trim")
    ends = range(lasting_at(steps), noted_at(steps) + 1)
    files = sorted(files_of(steps, "lay"))
    rows = list(itertools.product(*[states_of(steps, file) for file in files]))
    return [(trim, end, sheet, tuple(zip(files, row)))
            for trim in trims for end in ends for sheet in sheets_of(steps) for row in rows]


def slow_up(left):
    """Returns the number with which a left device comes up, or None, as point 110 says it."""
    trim, end, (number, files), states = left
    if trim > number:
        return None
    for file in files:
        if (file, "whole") not in states:
            return None
    return end if end > number else number


def fails(steps, left):
    """Returns True if a left device of the moment behind all steps fails or comes up with less than was told."""
    up = slow_up(left)
    return up is None or up < told_at(steps)


def first_breaking(steps):
    """Returns the first moment at which a left device fails, or comes up with too little, or None."""
    for moment in range(len(steps) + 1):
        if any(fails(steps[:moment], left) for left in left_devices(steps[:moment])):
            return moment
    return None


def next_steps(steps, files=3):
    """Returns the steps that fit behind a row of steps."""
    noted, told = noted_at(steps), told_at(steps)
    laid = files_of(steps, "lay")
    standing = [file for file in laid if ("clear", file) not in steps]
    number = sheets_of(steps)[-1][0]
    out = [("note", noted + 1), ("firm", "log"), ("firm", "sheet")]
    out += [("tell", at) for at in range(told + 1, noted + 1)]
    out += [("lay", file) for file in range(files) if file not in laid]
    out += [("trim", at) for at in range(max([0] + files_of(steps, "trim")) + 1, noted + 1)]
    out += [("clear", file) for file in standing] + [("firm", file) for file in laid]
    for at in range(number, told + 1):
        for many in range(min(3, len(standing) + 1)):
            out += [("list", at, row) for row in itertools.permutations(standing, many)]
    return out


def random_device_steps(rng, many, firms=0.4, files=3):
    """Returns a row of steps in form; about so many of them are firms, as far as there is something to firm."""
    steps = []
    for _ in range(many):
        choices = next_steps(steps, files)
        if rng.random() < firms:
            choices = [step for step in choices if step[0] == "firm"]
        word = rng.choice(sorted({step[0] for step in choices}))
        steps.append(rng.choice([step for step in choices if step[0] == word]))
    return steps


def busy_steps(rng, many, care, files=3):
    """Returns a row of steps in form with many windows; what must last is made lasting, with the chance care."""
    steps = []
    while len(steps) < many:
        choices = next_steps(steps, files)
        words = {step[0] for step in choices}
        word = rng.choice([one for one in ("note", "note", "tell", "tell", "lay", "list", "list", "list", "trim", "clear",
                                           "firm") if one in words])
        rows = [step for step in choices if step[0] == word]
        if word == "list":
            # the more files a list has, and the greater its number, the more depends on it
            rows = sorted(rows, key=lambda step: (len(step[2]), step[1]))[len(rows) // 2:]
        step = rng.choice(rows)
        need = {"tell": ["log"], "list": step[-1], "clear": ["sheet"], "trim": ["sheet"]}.get(word, [])
        steps += [("firm", part) for part in need if rng.random() < care]
        steps.append(step)
    return steps


def plain_faults(steps):
    """Returns all windows, those of faults with the start None, as point 111 says it."""
    out = []
    for end, step in enumerate(steps):
        lists = [(at, one) for at, one in enumerate(steps[:end]) if one[0] == "list"]
        if step[0] == "tell":
            out.append(("log", steps.index(("note", step[1])), end))
        if step[0] == "list":
            for file in sorted(step[2]):
                if not any(file in one[2] for _, one in lists):
                    out.append((file, steps.index(("lay", file)), end))
        if step[0] == "clear" and any(step[1] in one[2] for _, one in lists):
            behind = []
            for at, one in lists:
                behind = [] if step[1] in one[2] else behind + [at]
            out.append(("sheet", behind[0] if behind else None, end))
        if step[0] == "trim":
            enough = [at for at, one in lists if one[1] >= step[1]]
            out.append(("sheet", enough[0] if enough else None, end))
    return out
