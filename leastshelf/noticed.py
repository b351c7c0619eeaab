"""What someone can notice: where two stacks part, and which entries of a run are missed."""

from leastshelf.cuts import check_marks, cuts_at
from leastshelf.effects import STONE, effect_on, narrowed_effect, parting_state
from leastshelf.errors import OtherWindow
from leastshelf.fields import Field
from leastshelf.kinds import check_kind
from leastshelf.overlays import overlay, unlike
from leastshelf.rows import check_stack, stack_window, told_effects, told_rows
from leastshelf.runs import Run


def told_field(stack, marks, under):
    """Returns the field of the told rows of a stack, each a tuple."""
    neutral = ((stack_window(stack)[1], STONE),)
    return Field(neutral, [(a, b, tuple(row)) for a, b, row in told_rows(stack, marks, under)])


def parting_beneath(one, other, marks, under):
    """Returns the key, the cut and the state by which two stacks part, or None if they are alike."""
    kind = check_stack(one)[0].kind
    if check_stack(other)[0].kind != kind or stack_window(one) != stack_window(other):
        raise OtherWindow()
    told = unlike(told_field(one, marks, under), told_field(other, marks, under))
    if told is None:
        return None
    key, left, right = told
    pairs = [(pair, behind[1]) for pair, behind in zip(left, right) if pair != behind]
    (cut, effect), other_effect = pairs[0]
    return (key, cut, parting_state(kind, effect, other_effect))


def notice(kind, key, cuts, effects, others):
    """Returns where the loss of others instead of effects, both up to the cuts, is noticed, or None."""
    for cut, effect, other in zip(cuts, effects, others):
        state = parting_state(kind, effect, other)
        if state is not None:
            return (key, cut, state, effect_on(kind, effect, state), effect_on(kind, other, state))
    return None


def notices(run, marks, under):
    """Returns for each entry of each piece where its loss is noticed, or None if it is not."""
    told = check_marks(marks)
    kind = run.kind
    out = []
    for a, _, row in run.pieces():
        cuts = cuts_at(run.begin, run.end, told, a)
        effects = told_effects(kind, [row], cuts, a in under)
        for place in range(len(row)):
            left = row[:place] + row[place + 1:]
            out.append(notice(kind, a, cuts, effects, told_effects(kind, [left], cuts, a in under)))
    return out


def narrowed_row(kind, row):
    """Returns an entry row with its effects narrowed to the kind."""
    return tuple([(number, *narrowed_effect(kind, (clear, word))) for number, clear, word in row])


def narrowed_run(kind, run):
    """Returns a run of a kind that the given kind is under, narrowed to the given kind."""
    check_kind(kind)
    contents = overlay([run.contents()], lambda rows: narrowed_row(kind, rows[0]), neutral=())
    return Run(kind, run.begin, run.end, run.reach(), contents.pieces())
