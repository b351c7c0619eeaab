"""Least stores: their form, their made histories and their losses."""

from leastshelf.batches import batch_between, empty_store, narrowed_field
from leastshelf.deeds import is_name
from leastshelf.errors import BadLeast, BadLimit
from leastshelf.fields import Field
from leastshelf.kinds import check_kind, is_plain, is_row, is_whole
from leastshelf.stretches import TOP, is_stretch

GREATEST_LIMIT = 8


def check_most(most):
    """Returns the limit of a book; raises BadLimit for any other value."""
    if not is_whole(most) or not 1 <= most <= GREATEST_LIMIT:
        raise BadLimit(most)
    return most


def is_row_of(thing, many):
    """Returns True if any value is a row of so many entries."""
    return is_row(thing) and len(thing) == many


def plain_pieces(kind, pieces, begin, end):
    """Returns the pieces of a store between begin and end as tuples; raises BadLeast."""
    if not is_row(pieces):
        raise BadLeast()
    out = []
    for piece in pieces:
        if not is_row_of(piece, 3) or not is_stretch((piece[0], piece[1])):
            raise BadLeast()
        if not is_plain(kind, piece[2]) or piece[2] == ():
            raise BadLeast()
        out.append(tuple(piece))
    # no word is (), so the first piece never joins on to what is ahead of it
    behind = begin
    before = ()
    for a, b, word in out:
        if a < behind or b > end or (a == behind and word == before):
            raise BadLeast()
        behind = b
        before = word
    return tuple(out)


def plain_view(kind, view):
    """Returns a view of a least store as tuples; raises BadLeast."""
    if not is_row_of(view, 4):
        raise BadLeast()
    name, a, b, pieces = view
    if not is_name(name) or not is_stretch((a, b)):
        raise BadLeast()
    return (name, a, b, plain_pieces(kind, pieces, a, b))


def plain_least(kind, least, *, most=8):
    """Returns a least store as tuples throughout; raises BadLeast for any other value."""
    check_kind(kind)
    check_most(most)
    if not is_row_of(least, 2) or not is_row(least[0]) or not is_row(least[1]):
        raise BadLeast()
    if not 1 <= len(least[0]) <= most + 1:
        raise BadLeast()
    stores = tuple([plain_pieces(kind, pieces, 0, TOP) for pieces in least[0]])
    views = tuple([plain_view(kind, view) for view in least[1]])
    names = [view[0] for view in views]
    if names != sorted(set(names)):
        raise BadLeast()
    return (stores, views)


def history_of(kind, least):
    """Returns the made history of a least store, a list of deeds."""
    stores, views = plain_least(kind, least)
    history = []
    now = empty_store()
    for name, a, b, pieces in views:
        store = Field((), pieces)
        history.extend([("write", batch_between(kind, now, store)), ("sync",), ("hold", name, a, b)])
        now = store
    for number, pieces in enumerate(stores):
        store = Field((), pieces)
        history.append(("write", batch_between(kind, now, store)))
        if number == 0:
            history.append(("sync",))
        now = store
    return history


def without_entry(row, place):
    """Returns a tuple without the entry at the place."""
    return row[:place] + row[place + 1:]


def with_entry(row, place, thing):
    """Returns a tuple with another entry at the place."""
    return (*row[:place], thing, *row[place + 1:])


def store_losses(stores, views):
    """Returns the list of the losses of the pieces of the stores."""
    out = []
    for number, pieces in enumerate(stores):
        ahead = [("crash", number)] if number < len(stores) - 1 else []
        for at, (a, _, word) in enumerate(pieces):
            left = with_entry(stores, number, without_entry(pieces, at))
            out.append(((left, views), [*ahead, ("read", a)], ("word", word), ("word", ())))
    return out


def view_losses(stores, views, place):
    """Returns the list of the losses of the view at the place, and of its pieces."""
    name, a, b, pieces = views[place]
    out = []
    for at, (key, _, word) in enumerate(pieces):
        left = with_entry(views, place, (name, a, b, without_entry(pieces, at)))
        out.append(((stores, left), [("ask", name, key)], ("word", word), ("word", ())))
    store = Field((), pieces)
    keys = [a] if b - a == 1 else [a, b - 1]
    for key in keys:
        left = without_entry(views, place)
        out.append(((stores, left), [("ask", name, key)], ("word", store.at(key)), ("refused", "unknown")))
    return out


def losses(kind, least):
    """Yields for each loss what is left, a future, its last answer and that behind the loss."""
    stores, views = plain_least(kind, least)
    yield from store_losses(stores, views)
    for place in range(len(views)):
        yield from view_losses(stores, views, place)
    if len(stores) > 1:
        future = [("crash", len(stores) - 1)]
        yield ((stores[:-1], views), future, ("done",), ("refused", "fewer"))


def narrowed_pieces(kind, pieces):
    """Returns the tuple of the pieces of a store narrowed to the kind."""
    return tuple(narrowed_field(kind, Field((), pieces)).pieces())


def narrowed_least(kind, least):
    """Returns a least store narrowed to the kind, as tuples throughout; raises BadLeast."""
    check_kind(kind)
    stores, views = plain_least("list", least)
    left = tuple([narrowed_pieces(kind, pieces) for pieces in stores])
    return (left, tuple([(name, a, b, narrowed_pieces(kind, pieces)) for name, a, b, pieces in views]))
