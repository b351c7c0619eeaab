"""Ledgers: the batches and the marks that a history of steps leaves, and the run that it makes."""

from leastshelf.books import reason_against
from leastshelf.deeds import plain_step
from leastshelf.kinds import check_kind
from leastshelf.leastruns import least_run, whole_counts
from leastshelf.leasts import check_most
from leastshelf.overlays import key_set
from leastshelf.runs import Run
from leastshelf.stretches import TOP


def behind_step(step, batches, kept, views):
    """Returns the batches, the number of the kept ones and the views behind a step that is done."""
    if step[0] == "write":
        return ([*batches, step[1]], kept, views)
    if step[0] == "sync":
        return (batches, len(batches), views)
    if step[0] == "crash":
        left = kept + step[1]
        return (batches[:left], left, {})
    if step[0] == "drop":
        return (batches, kept, {name: views[name] for name in views if name != step[1]})
    if step[0] in ("hold", "narrow"):
        _, name, a, b = step
        number = len(batches) if step[0] == "hold" else views[name][2]
        return (batches, kept, {**views, name: (a, b, number)})
    return (batches, kept, views)


def ledger(kind, history, *, most=8):
    """Returns the tuple of the list of the batches and the list of the marks of a history."""
    check_kind(kind)
    check_most(most)
    steps = [plain_step(kind, step, place) for place, step in enumerate(history)]
    batches = []
    kept = 0
    views = {}
    for step in steps:
        if reason_against(step, most, len(batches) - kept, views) is None:
            batches, kept, views = behind_step(step, batches, kept, views)
    marks = []
    for name in sorted(views):
        a, b, number = views[name]
        marks.append((number, a, b))
    marks.extend([(number, 0, TOP) for number in range(kept, len(batches))])
    return (batches, marks)


def history_run(kind, history, *, most=8):
    """Returns the run of a history, or None if it has no batch."""
    batches, _ = ledger(kind, history, most=most)
    if len(batches) == 0:
        return None
    return Run.of_batches(kind, 0, batches)


def history_count(kind, history, *, most=8):
    """Returns the count of a history, the entries of its least run at all keys together."""
    batches, marks = ledger(kind, history, most=most)
    if len(batches) == 0:
        return 0
    least = least_run([Run.of_batches(kind, 0, batches)], marks, key_set([]))
    return whole_counts(least)[0]
