"""How many plain words, least stores and states of menus there are."""

from math import comb, perm

from leastshelf.kinds import check_kind


def power(base, exponent):
    """Returns the base to the power of the exponent."""
    out = 1
    for _ in range(exponent):
        out *= base
    return out


def word_count(kind, letters, *, longest=0):
    """Returns the number of plain words over so many letters, () among them."""
    check_kind(kind)
    if kind == "list":
        return sum([power(letters, many) for many in range(longest + 1)])
    if kind == "bag":
        return comb(letters + longest, longest)
    if kind == "set":
        return power(2, letters)
    if kind in ("first", "last"):
        return letters + 1
    if kind == "ends":
        return letters * letters + 1
    return sum([perm(letters, many) for many in range(letters + 1)])


def store_count(words, keys, *, loose=0, widths=()):
    """Returns the number of least stores with so many words for each key, and loose batches."""
    return power(words, keys * (loose + 1) + sum(widths))


def menu_count(words, keys, *, most, widths=()):
    """Returns the number of states of the menu that leads to all least stores."""
    total = sum([store_count(words, keys, loose=loose) for loose in range(most + 1)])
    for width in widths:
        total *= 1 + power(words, width)
    return total
