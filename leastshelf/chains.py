"""The most changes that there can be at a key, and runs that have them."""

from leastshelf.errors import BadLimit
from leastshelf.kinds import check_kind, is_whole, plain_word
from leastshelf.leastruns import least_run
from leastshelf.overlays import key_set
from leastshelf.runs import Run
from leastshelf.stretches import check_key


def check_counts(cuts, letters):
    """Raises BadLimit for cuts and letters, any values, that cannot be counts of these."""
    if not is_whole(cuts) or cuts < 1:
        raise BadLimit(cuts)
    if not is_whole(letters) or letters < 0:
        raise BadLimit(letters)


def most_parts(kind, cuts, letters):
    """Returns the most changes if no entry clears."""
    if letters == 0 or kind == "last":
        return 0
    if kind in ("list", "bag"):
        return cuts
    if kind in ("set", "heads"):
        return min(cuts, letters)
    if kind == "first" or letters == 1:
        return 1
    return cuts


def most_entries(kind, cuts, letters, *, puts=True, beneath=True):
    """Returns the most changes at a key with so many cuts, of a run with so many letters."""
    check_kind(kind)
    check_counts(cuts, letters)
    if not puts:
        return most_parts(kind, cuts, letters)
    if letters > 0:
        return cuts
    return 1 if beneath else 0


def chain_row(kind, many, letters, puts):
    """Returns a row of so many effects, each of which changes what those ahead of it make."""
    if puts:
        # a stone and a put by turns; without letters there is a stone alone
        word = plain_word(kind, (0,)) if letters > 0 else ()
        return [(True, word if at % 2 == 0 else ()) for at in range(many)]
    return [(False, plain_word(kind, (at % letters,))) for at in range(many)]


def chain_run(kind, cuts, letters, key, *, puts=True):
    """Returns a run with as many entries at the key as there can be, which is its own least run."""
    many = most_entries(kind, cuts, letters, puts=puts)
    check_key(key)
    effects = chain_row(kind, many, letters, puts)
    row = tuple([(at, clear, word) for at, (clear, word) in enumerate(effects, 1)])
    reach = key_set([(key, key + 1)])
    run = Run(kind, 0, cuts, reach, [(key, key + 1, row)])
    return least_run([run], [(number, key, key + 1) for number in range(1, cuts)], reach)
