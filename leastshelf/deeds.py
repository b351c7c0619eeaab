"""The steps of a book: its deeds and its questions."""

from leastshelf.batches import is_stroke, narrowed_batch
from leastshelf.errors import BadStep
from leastshelf.kinds import check_kind, is_row, is_whole
from leastshelf.stretches import is_key, is_stretch

DEEDS = ("write", "sync", "crash", "hold", "narrow", "drop")
QUESTIONS = ("read", "ask")
REASONS = ("loose", "fewer", "taken", "unknown", "outside")


def is_name(thing):
    """Returns True if any value is a name of a view."""
    return is_whole(thing) and 0 <= thing <= 99


def is_deed(step):
    """Returns True if a step is a deed."""
    return step[0] in DEEDS


def is_batch(thing):
    """Returns True if any value is a row of strokes."""
    return is_row(thing) and all([is_stroke(stroke) for stroke in thing])


def values_fit(word, values):
    """Returns True if the values, a tuple, may stand behind the first word of a step."""
    if word == "sync":
        return values == ()
    if word in ("hold", "narrow"):
        return len(values) == 3 and is_name(values[0]) and is_stretch(values[1:])
    if word == "ask":
        return len(values) == 2 and is_name(values[0]) and is_key(values[1])
    return len(values) == 1 and value_fits(word, values[0])


def value_fits(word, thing):
    """Returns True if any value may stand alone behind the first word of a step."""
    if word == "write":
        return is_batch(thing)
    if word == "crash":
        return is_whole(thing) and thing >= 0
    if word == "drop":
        return is_name(thing)
    if word == "read":
        return is_key(thing)
    return False


def is_step(thing):
    """Returns True if any value is a step."""
    if not isinstance(thing, tuple) or len(thing) == 0 or not isinstance(thing[0], str):
        return False
    return values_fit(thing[0], thing[1:])


def plain_step(kind, step, /, place=0):
    """Returns a step as tuples throughout; raises BadStep(place) for any other value."""
    check_kind(kind)
    if not is_step(step):
        raise BadStep(place)
    if step[0] == "write":
        return ("write", tuple(step[1]))
    return step


def narrowed_step(kind, step):
    """Returns a step narrowed to the kind, as tuples throughout; raises BadStep(0)."""
    plain = plain_step(kind, step)
    if plain[0] == "write":
        return ("write", narrowed_batch(kind, plain[1]))
    return plain
