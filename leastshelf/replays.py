"""Playing batches once more on a store that has got some of them already."""

from leastshelf.batches import batch_effects
from leastshelf.effects import IDLE, then
from leastshelf.kinds import IDEMPOTENT, check_kind
from leastshelf.overlays import gaps, overlay


def effects_of(kind, batches):
    """Returns the field of effects of a row of batches, one then the next."""
    layers = [batch_effects(kind, batch) for batch in batches]
    return overlay(layers, lambda effects: then(kind, *effects), neutral=IDLE)


def replay_key(kind, batches, begin, middle):
    """Returns the least key at which playing again the batches behind begin changes something, or None."""
    check_kind(kind)
    if kind in IDEMPOTENT:
        return None
    again = effects_of(kind, batches[begin:middle])
    behind = effects_of(kind, batches[middle:])
    for a, _, (effect, last) in gaps([again, behind]):
        if not last[0] and not effect[0] and effect[1] != ():
            return a
    return None
