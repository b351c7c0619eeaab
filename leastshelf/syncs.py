"""The fewest firms that make the steps of a device right, or keep them right."""

from leastshelf.errors import NoPlace, NotRight
from leastshelf.tables import is_number_below
from leastshelf.windows import device_windows, faults, firms_in, flaw_of, plain_steps


def unfirm_windows(steps):
    """Returns the list of the device windows at which point 113 takes a firm; raises NotRight."""
    plain = plain_steps(steps)
    wrong = faults(plain)
    if wrong:
        raise NotRight(wrong[0])
    taken = {}
    out = []
    for window in device_windows(plain):
        part, start, end = window
        # slots are taken at ends, and ends ascend, so the last one that is taken tells enough
        if not firms_in(plain, window) and taken.get(part, 0) <= start:
            taken[part] = end
            out.append(window)
    return out


def fewest_firms(steps):
    """Returns the fewest firms that make the steps right, a list of tuples (slot, part)."""
    return [(end, part) for part, _, end in unfirm_windows(steps)]


def apart_windows(steps):
    """Returns the list of device windows that are not served, no two of which share a slot."""
    return unfirm_windows(steps)


def right_steps(steps):
    """Returns the list of the steps; raises NotRight with the flaw if they are not right."""
    plain = plain_steps(steps)
    flaw = flaw_of(plain)
    if flaw is not None:
        raise NotRight(flaw)
    return plain


def may_leave_out(steps, places):
    """Returns True if the right row of steps stays right without the firms at the places."""
    plain = right_steps(steps)
    for place in places:
        if not is_number_below(place, len(plain)) or plain[place][0] != "firm":
            raise NoPlace(place)
    for window in device_windows(plain):
        if not [place for place in firms_in(plain, window) if place not in places]:
            return False
    return True


def taken_firms(steps):
    """Returns a dict from the places of the firms that point 114 takes to the windows where it takes them."""
    plain = right_steps(steps)
    taken = {}
    for window in device_windows(plain):
        serving = firms_in(plain, window)
        if not [place for place in serving if place in taken]:
            taken[serving[-1]] = window
    return taken


def needed_firms(steps):
    """Returns the list of the places of the fewest firms that keep the steps right, ascending."""
    return sorted(taken_firms(steps))


def own_apart(steps):
    """Returns the list of device windows no two of which are served by one firm, one for each needed firm."""
    taken = taken_firms(steps)
    return [taken[place] for place in taken]
