"""Steps from one effect to another, and running rows of effects."""

from leastshelf.effects import IDLE, is_effect, normal, then
from leastshelf.errors import BadEffect
from leastshelf.kinds import check_kind, rest


def step(kind, one, other):
    """Returns the step from one effect to another, or None."""
    first = normal(kind, one)
    last = normal(kind, other)
    if first == last:
        return IDLE
    behind = rest(kind, first[1], last[1])
    if behind is not None and first[0] == last[0]:
        if not last[0] or len(behind) < len(last[1]):
            return normal(kind, (False, behind))
    if last[0]:
        return last
    return None


def check_effects(kind, row):
    """Raises BadEffect with the place of the first entry that is no effect."""
    check_kind(kind)
    for place, thing in enumerate(row):
        if not is_effect(kind, thing):
            raise BadEffect(place)


def running(kind, row):
    """Returns the running row of a row of effects."""
    check_effects(kind, row)
    out = []
    so_far = IDLE
    for effect in row:
        so_far = then(kind, so_far, effect)
        out.append(so_far)
    return out


def steps_between(kind, row, *, start=IDLE):
    """Returns the steps of a row of effects from the start; None where there is none."""
    check_effects(kind, row)
    out = []
    before = start
    for effect in row:
        out.append(step(kind, before, effect))
        before = effect
    return out


def row_letters(row):
    """Returns the number of letters of the words of a row of effects, together."""
    return sum([len(effect[1]) for effect in row if effect is not None])


def row_count(row):
    """Returns how many effects of a row are not idle."""
    return len([effect for effect in row if effect is not None and effect != IDLE])
