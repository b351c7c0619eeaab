"""The sizes of spans of told spills, and plans that are played on them."""

from leastshelf.cuts import check_marks
from leastshelf.effects import IDLE, then
from leastshelf.entries import effects_up_to
from leastshelf.errors import BadPlan, BadRun
from leastshelf.leastruns import least_run, whole_counts
from leastshelf.overlays import gaps, key_set
from leastshelf.rows import ground
from leastshelf.runs import Run


def check_spills(spills):
    """Raises BadRun with the place of the first entry that is no told spill behind those before it."""
    end = 0
    for place, run in enumerate(spills):
        if not isinstance(run, Run) or run.kind != spills[0].kind or run.begin < end:
            raise BadRun(place)
        end = run.end


def or_no_keys(beneath):
    """Returns the key set beneath, that without keys for None."""
    return key_set([]) if beneath is None else beneath


def changes_of_stacks(runs, rows, numbers, beneath):
    """Returns the changes at a key of the stacks of the first run, of the first two, and so on.

    rows has the entry rows of the runs at the key, numbers those of the marks there, ascending.
    """
    kind = runs[0].kind
    out = []
    many = 0
    before = ground(beneath)
    whole = IDLE
    low = runs[0].begin + 1
    for run, row in zip(runs, rows):
        cuts = [number for number in numbers if low <= number < run.end]
        effects = [then(kind, whole, effect) for effect in effects_up_to(kind, row, [*cuts, run.end])]
        told = effects if beneath else [(True, word) for _, word in effects]
        for effect in told[:-1]:
            many += 1 if effect != before else 0
            before = effect
        # the end of this run is a cut of the stack that ends here; of a longer one only if a mark has it
        out.append(many + 1 if told[-1] != before else many)
        whole = effects[-1]
        low = run.end
    return out


def spill_sizes(spills, *, marks=(), beneath=None):
    """Returns the size table of told spills, a list of lists; raises BadRun and BadMark."""
    check_spills(spills)
    told = check_marks(marks)
    many = len(spills)
    sizes = [[0 for _ in range(many - i)] for i in range(many)]
    layers = [*[run.contents() for run in spills], *[run.reach() for run in spills]]
    layers.extend([key_set([(a, b)]) for _, a, b in told])
    for a, b, things in gaps([*layers, or_no_keys(beneath)]):
        rows = things[:many]
        numbers = sorted({mark[0] for mark, held in zip(told, things[2 * many:-1]) if held})
        for i in range(many):
            if any(rows[i:]):
                under = things[-1] or any(things[many:many + i])
                found = changes_of_stacks(spills[i:], rows[i:], numbers, under)
                sizes[i] = [size + (b - a) * one for size, one in zip(sizes[i], found)]
    return sizes


def added_sizes(spills, *, marks=(), beneath=None):
    """Returns the size table of what marks and keys beneath add to the sizes, a list of lists."""
    sizes = spill_sizes(spills, marks=marks, beneath=beneath)
    return [[size - least for size, least in zip(row, fewest)] for row, fewest in zip(sizes, spill_sizes(spills))]


def outcome_of(standing, spills, span, marks, beneath):
    """Returns the outcome of a pour of the runs, each with its span, that stand within a span."""
    stack = [run for (i, j), run in standing if span[0] <= i and j <= span[1]]
    stretches = [(a, b) for spill in spills[:span[0]] for a, b, _ in spill.reach()]
    stretches.extend([(a, b) for a, b, _ in beneath])
    return least_run(stack, marks, key_set(stretches))


def played(plan, spills, *, marks=(), beneath=None):
    """Plays a plan; returns the runs that stand at its end and the numbers of entries of its outcomes."""
    check_spills(spills)
    told = check_marks(marks)
    if len(plan) != len(spills):
        raise BadPlan(len(spills))
    keys = or_no_keys(beneath)
    standing = []
    counts = []
    for spill, row in enumerate(plan):
        standing.append(((spill, spill + 1), spills[spill]))
        for span in row:
            outcome = outcome_of(standing, spills, span, told, keys)
            counts.append(whole_counts(outcome)[0])
            older = [pair for pair in standing if pair[0][1] <= span[0]]
            newer = [pair for pair in standing if pair[0][0] >= span[1]]
            standing = [*older, (span, outcome), *newer]
    return ([run for _, run in standing], counts)
