"""The windows of the steps of a device: between two places of them something must be made lasting."""

from leastshelf.devices import Device


def plain_steps(steps):
    """Returns the list of the steps of a device; raises BadSteps."""
    return Device(steps).steps()


def lists_ahead(steps, place):
    """Returns a list of the tuples (place, number, files) of the lists ahead of a place."""
    return [(at, *step[1:]) for at, step in enumerate(steps[:place]) if step[0] == "list"]


def sheet_window(starts, place):
    """Returns the row of the window of the sheet from the first of the starts; of a fault if there are none."""
    return [("sheet", starts[0] if starts else None, place)]


def windows_to(steps, place):
    """Returns the list of the windows that end at a place; one without a start is a fault."""
    step = steps[place]
    lists = lists_ahead(steps, place)
    if step[0] == "tell":
        return [("log", steps.index(("note", step[1])), place)]
    if step[0] == "list":
        known = [file for _, _, files in lists for file in files]
        return [(file, steps.index(("lay", file)), place) for file in sorted(step[2]) if file not in known]
    if step[0] == "clear":
        held = [at for at, _, files in lists if step[1] in files]
        return sheet_window([at for at, _, _ in lists if at > held[-1]], place) if held else []
    if step[0] == "trim":
        return sheet_window([at for at, number, _ in lists if number >= step[1]], place)
    return []


def all_windows(steps):
    """Returns the list of the windows of all places, those of faults too."""
    return [window for place in range(len(steps)) for window in windows_to(steps, place)]


def device_windows(steps):
    """Returns the list of the device windows, in order."""
    return [window for window in all_windows(plain_steps(steps)) if window[1] is not None]


def faults(steps):
    """Returns the list of the faults, ascending."""
    return [end for _, start, end in all_windows(plain_steps(steps)) if start is None]


def firms_in(steps, window):
    """Returns the list of the places of the firms that serve a device window, ascending."""
    part, start, end = window
    return [place for place in range(start + 1, end) if steps[place] == ("firm", part)]


def is_flawed(steps, window):
    """Returns True if a window is that of a fault, or is not served."""
    return window[1] is None or not firms_in(steps, window)


def flaw_of(steps):
    """Returns the flaw of a row of steps, or None if the row is right."""
    for window in all_windows(steps):
        if is_flawed(steps, window):
            return window[2]
    return None


def is_right(steps):
    """Returns True if the row of steps is right."""
    return flaw_of(plain_steps(steps)) is None


def left_at_flaw(steps):
    """Returns the left device that fails, or comes up with too little, behind steps that end with the flaw."""
    device = Device(steps)
    sheets = device.sheets()
    word, number = steps[-1][:2]
    trim = 0
    end = device.noted
    sheet = sheets[-1]
    states = {file: "whole" for file, _ in device.left_parts()[3]}
    if word == "tell":
        end = device.lasting
    elif word == "list":
        flawed = [window for window in windows_to(steps, len(steps) - 1) if is_flawed(steps, window)]
        states[flawed[0][0]] = "broken"
    elif word == "clear":
        sheet = [one for one in sheets if number in one[1]][-1]
        states[number] = "gone"
    else:
        trim = number
        sheet = [one for one in sheets if one[0] < number][-1]
    return (trim, end, sheet, tuple([(file, states[file]) for file in states]))


def breaking(steps):
    """Returns the flaw and a left device that shows it, or None if the row of steps is right."""
    plain = plain_steps(steps)
    place = flaw_of(plain)
    if place is None:
        return None
    return (place, left_at_flaw(plain[:place + 1]))


def numbers_up(steps):
    """Returns the list of the numbers with which left devices behind all steps come up, ascending."""
    _, ends, sheets, _ = Device(steps).left_parts()
    # a crash can leave each file whole and nothing trimmed, so each sheet comes up with each end
    return sorted({max(number, end) for number, _ in sheets for end in ends})
