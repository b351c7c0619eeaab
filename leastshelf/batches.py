"""Batches of strokes, and what fields of effects make of stores."""

from leastshelf.effects import IDLE, effect_on, narrowed_effect, parting_state, then
from leastshelf.errors import BadBatch
from leastshelf.fields import Field
from leastshelf.kinds import check_kind, is_row, is_word, plain_word
from leastshelf.overlays import key_set, overlay, unlike
from leastshelf.stretches import is_stretch


def is_stroke(thing):
    """Returns True if any value is a stroke."""
    if not isinstance(thing, tuple) or len(thing) != 4:
        return False
    return is_stretch(thing[:2]) and isinstance(thing[2], bool) and is_word(thing[3])


def checked_strokes(batch):
    """Returns a batch as a tuple; raises BadBatch for any other value."""
    if not is_row(batch):
        raise BadBatch(0)
    for place, thing in enumerate(batch):
        if not is_stroke(thing):
            raise BadBatch(place)
    return tuple(batch)


def check_batch(kind, batch):
    """Returns the batch, a tuple; raises BadBatch for any other value."""
    check_kind(kind)
    return checked_strokes(batch)


def touched(batch):
    """Returns the key set of the keys that a batch touches."""
    return key_set([(a, b) for a, b, _, _ in checked_strokes(batch)])


def batch_effects(kind, batch):
    """Returns the field of effects of a batch."""
    strokes = check_batch(kind, batch)
    layers = [Field(IDLE, [(a, b, (clear, plain_word(kind, word)))]) for a, b, clear, word in strokes]
    return overlay(layers, lambda effects: then(kind, *effects), neutral=IDLE)


def after(kind, one, other):
    """Returns the field of effects one then other."""
    check_kind(kind)
    return overlay([one, other], lambda effects: then(kind, *effects), neutral=IDLE)


def on_store(kind, effects, store):
    """Returns what a field of effects makes of a store."""
    check_kind(kind)
    return overlay([effects, store], lambda things: effect_on(kind, things[0], things[1]), neutral=())


def empty_store():
    """Returns the store without pieces."""
    return Field(())


def new_word(words):
    """Returns a tuple with the second of two words, without it if they are equal."""
    if words[0] == words[1]:
        return ()
    return (words[1],)


def batch_between(kind, one, other):
    """Returns the batch between two stores."""
    check_kind(kind)
    changed = overlay([one, other], new_word, neutral=())
    return tuple([(a, b, True, told[0]) for a, b, told in changed])


def batch_of(effects):
    """Returns the batch of a field of effects."""
    return tuple([(a, b, clear, word) for a, b, (clear, word) in effects])


def parting_key(kind, one, other):
    """Returns the tuple (key, state) by which two fields of effects part, or None."""
    check_kind(kind)
    told = unlike(one, other)
    if told is None:
        return None
    key, left, right = told
    return (key, parting_state(kind, left, right))


def narrowed_field(kind, field):
    """Returns a field of words or effects narrowed to the given kind."""
    check_kind(kind)
    if field.neutral == IDLE:
        return overlay([field], lambda things: narrowed_effect(kind, things[0]), neutral=IDLE)
    return overlay([field], lambda things: plain_word(kind, things[0]), neutral=())


def narrowed_batch(kind, batch):
    """Returns a batch narrowed to the given kind."""
    strokes = check_batch(kind, batch)
    return tuple([(a, b, clear, plain_word(kind, word)) for a, b, clear, word in strokes])
