"""Listings: the runs and the live views of a desk, line by line."""

from leastshelf.leastruns import whole_counts


def run_line(place, run):
    """Returns the line of a run at a place of the shelf."""
    entries = whole_counts(run)[0]
    keys = run.reach().size
    return f"run {place:>2} {run.begin:>4} {run.end:>4} {len(run):>4} {entries:>8} {keys:>8}"


def view_line(name, mark):
    """Returns the line of a live view, told by its name and its mark."""
    number, a, b = mark
    return f"view {name:02d} {number:>4} {a:>8} {b:>8}"


def listing(desk):
    """Returns the list of the lines of the listing of a desk."""
    lines = [f"{desk.kind}: noted {desk.noted}, kept {desk.kept}, spilled {desk.spilled}"]
    lines.extend([run_line(place, run) for place, run in enumerate(desk.shelf())])
    lines.extend([view_line(name, mark) for name, mark in zip(desk.names(), desk.marks())])
    return lines
