"""What futures tell of a book, and which of them tells two books apart."""

from leastshelf.deeds import plain_step
from leastshelf.errors import OtherBook
from leastshelf.overlays import unlike


def answers(book, steps):
    """Returns the list of the answers that the book would give to a row of steps."""
    plain = [plain_step(book.kind, step, place) for place, step in enumerate(steps)]
    twin = book.twin()
    return [twin.answer(step) for step in plain]


def view_parting_key(left, right):
    """Returns the key at which two views of one name part, or None if they are equal."""
    _, a, b, store = left
    _, c, d, other_store = right
    if a != c:
        return min(a, c)
    if b != d:
        return min(b, d)
    told = unlike(store, other_store)
    if told is None:
        return None
    return told[0]


def views_parting(one, other):
    """Returns the question that tells apart the views of two books, or None."""
    lefts = {view[0]: view for view in one.views()}
    rights = {view[0]: view for view in other.views()}
    for name in sorted({**lefts, **rights}):
        if name not in rights:
            return ("ask", name, lefts[name][1])
        if name not in lefts:
            return ("ask", name, rights[name][1])
        key = view_parting_key(lefts[name], rights[name])
        if key is not None:
            return ("ask", name, key)
    return None


def parting(one, other):
    """Returns the parting future of two books, or None if they are alike."""
    if one.kind != other.kind or one.most != other.most:
        raise OtherBook()
    lefts = one.stores()
    rights = other.stores()
    told = unlike(lefts[-1], rights[-1])
    if told is not None:
        return [("read", told[0])]
    question = views_parting(one, other)
    if question is not None:
        return [question]
    if len(lefts) != len(rights):
        return [("crash", max(len(lefts), len(rights)) - 1)]
    for number, (left, right) in enumerate(zip(lefts, rights)):
        told = unlike(left, right)
        if told is not None:
            return [("crash", number), ("read", told[0])]
    return None


def alike(one, other):
    """Returns True if two books get the same answers to each future."""
    return parting(one, other) is None
