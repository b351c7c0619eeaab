"""Which effects change places, and which words may be taken fewer times."""

from leastshelf.effects import parting_state, then
from leastshelf.kinds import IDEMPOTENT, check_kind, fresh_word


def change_places(kind, one, other):
    """Returns True if the two effects change places."""
    return then(kind, one, other) == then(kind, other, one)


def parting_swap(kind, one, other):
    """Returns the parting state of one then other and of other then one, or None."""
    return parting_state(kind, then(kind, one, other), then(kind, other, one))


def swallowed(kind, small, large):
    """Returns True if the plain word small is swallowed by the plain word large."""
    check_kind(kind)
    if small == ():
        return True
    if kind == "last":
        return large != ()
    if kind in ("set", "tails"):
        return len(set(small) - set(large)) == 0
    return False


def parting_word(kind, small, large):
    """Returns a word between small and large that shows both, or None if small is swallowed."""
    if swallowed(kind, small, large):
        return None
    if kind == "last":
        return ()
    return fresh_word(kind, small, large)


def twice_at_once(kind, word):
    """Returns True if the word may be taken twice at once, as once."""
    check_kind(kind)
    return word == () or kind in IDEMPOTENT


def twice_later(kind, word):
    """Returns True if the word may be taken again later, as once."""
    check_kind(kind)
    return word == () or kind in ("set", "first", "heads")


def twice_earlier(kind, word):
    """Returns True if the word may be taken earlier too, as once."""
    check_kind(kind)
    return word == () or kind in ("set", "last", "tails")
