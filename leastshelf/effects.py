"""Effects: what a write makes of the state of a key."""

from leastshelf.kinds import check_kind, fresh_word, is_plain, kind_named

IDLE = (False, ())
STONE = (True, ())


def is_effect(kind, thing):
    """Returns True if any value is an effect, in normal form or not."""
    check_kind(kind)
    if not isinstance(thing, tuple) or len(thing) != 2:
        return False
    return isinstance(thing[0], bool) and is_plain(kind, thing[1])


def normal(kind, effect):
    """Returns the normal form of an effect."""
    check_kind(kind)
    clear, word = effect
    # under last a part forgets the state, as a put does
    if kind == "last" and word != ():
        return (True, word)
    return (clear, word)


def then(kind, *effects):
    """Returns the first effect then the second, and so on; the idle effect for none."""
    maker = kind_named(kind)
    clear = False
    letters = []
    for clears, word in effects:
        if clears:
            clear = True
            letters = []
        letters.extend(word)
    return normal(kind, (clear, maker.plain(letters)))


def effect_on(kind, effect, state):
    """Returns what an effect makes of a state."""
    maker = kind_named(kind)
    clear, word = effect
    if clear:
        return word
    return maker.plain(state + word)


def parting_state(kind, one, other):
    """Returns a state of which the effects make unequal states, or None."""
    left = normal(kind, one)
    right = normal(kind, other)
    if left == right:
        return None
    if left[1] != right[1]:
        return ()
    return fresh_word(kind, left[1])


def narrowed_effect(kind, effect):
    """Returns an effect of a kind that the given kind is under, narrowed to the given kind."""
    maker = kind_named(kind)
    clear, word = effect
    return normal(kind, (clear, maker.plain(word)))
