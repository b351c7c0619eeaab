"""Books: a row of stores, live views, and the steps that change them."""

from leastshelf.batches import batch_effects, empty_store, on_store
from leastshelf.deeds import is_deed, is_name, plain_step
from leastshelf.errors import BadStep, Fewer, Loose, Outside, Taken, Unknown
from leastshelf.fields import Field
from leastshelf.kinds import check_kind
from leastshelf.leasts import check_most, plain_least
from leastshelf.stretches import lies_within


def view_reason(step, views):
    """Returns the reason for which a step about a live view is refused, or None."""
    if step[1] not in views:
        return "unknown"
    a, b = views[step[1]][:2]
    if step[0] == "narrow" and not lies_within(step[2:], (a, b)):
        return "outside"
    if step[0] == "ask" and not a <= step[2] < b:
        return "outside"
    return None


def reason_against(step, most, loose, views):
    """Returns the reason for which a step is refused, or None; views has (a, b, ..) by names."""
    if step[0] == "write" and loose >= most:
        return "loose"
    if step[0] == "crash" and step[1] > loose:
        return "fewer"
    if step[0] == "hold" and step[1] in views:
        return "taken"
    if step[0] in ("narrow", "drop", "ask"):
        return view_reason(step, views)
    return None


def refuse(step, reason):
    """Raises the error of a reason for which a step is refused."""
    if reason == "loose":
        raise Loose()
    if reason == "fewer":
        raise Fewer(step[1])
    if reason == "taken":
        raise Taken(step[1])
    if reason == "unknown":
        raise Unknown(step[1])
    raise Outside(step[1])


class Book:
    """A book: the kept store, the stores behind its loose batches, and its live views."""

    def __init__(self, kind, *, most=8):
        self._kind = check_kind(kind)
        self._most = check_most(most)
        self._stores = [empty_store()]
        self._views = {}

    @classmethod
    def made(cls, kind, least, *, most=8):
        """Returns a new book made of a least store."""
        stores, views = plain_least(kind, least, most=most)
        book = cls(kind, most=most)
        book._stores = [Field((), pieces) for pieces in stores]
        book._views = {name: (a, b, Field((), pieces)) for name, a, b, pieces in views}
        return book

    @property
    def kind(self):
        """The kind."""
        return self._kind

    @property
    def most(self):
        """The limit."""
        return self._most

    @property
    def loose(self):
        """The number of loose batches."""
        return len(self._stores) - 1

    def write(self, batch):
        """Writes a batch on the store of now."""
        self._take(("write", batch))

    def sync(self):
        """Keeps the store of now alone."""
        self._take(("sync",))

    def crash(self, number):
        """Keeps the store of this number alone; all views end."""
        self._take(("crash", number))

    def hold(self, name, a, b):
        """Holds a view of the store of now."""
        self._take(("hold", name, a, b))

    def narrow(self, name, a, b):
        """Narrows a view to a stretch within its own."""
        self._take(("narrow", name, a, b))

    def drop(self, name):
        """Ends a view."""
        self._take(("drop", name))

    def read(self, key):
        """Returns the state of a key in the store of now."""
        return self._take(("read", key))

    def ask(self, name, key):
        """Returns the state of a key in the store of a view."""
        return self._take(("ask", name, key))

    def answer(self, step):
        """Does a step and returns its answer."""
        plain = plain_step(self._kind, step)
        reason = reason_against(plain, self._most, self.loose, self._views)
        if reason is not None:
            return ("refused", reason)
        state = self._do(plain)
        if is_deed(plain):
            return ("done",)
        return ("word", state)

    def store(self):
        """Returns the list of the pieces of the store of now."""
        return self._stores[-1].pieces()

    def view(self, name):
        """Returns a tuple of the two ends of a view and the list of its pieces."""
        if not is_name(name):
            raise BadStep(0)
        if name not in self._views:
            raise Unknown(name)
        a, b, store = self._views[name]
        return (a, b, store.pieces())

    def names(self):
        """Returns the list of the live names, ascending."""
        return sorted(self._views)

    def stores(self):
        """Returns the list of the stores, the kept one first."""
        return list(self._stores)

    def views(self):
        """Returns the list of the tuples (name, a, b, store) of the views, by ascending names."""
        return [(name, *self._views[name]) for name in self.names()]

    def least_store(self):
        """Returns the least store, as tuples throughout."""
        stores = tuple([tuple(store.pieces()) for store in self._stores])
        return (stores, tuple([(name, a, b, tuple(store.pieces())) for name, a, b, store in self.views()]))

    def twin(self):
        """Returns a new book of the same kind and limit with the same least store."""
        book = Book(self._kind, most=self._most)
        book._stores = self.stores()
        book._views = {name: (a, b, store) for name, a, b, store in self.views()}
        return book

    def _take(self, step):
        """Does a step and returns the state that it asks for; raises what refuses it."""
        plain = plain_step(self._kind, step)
        reason = reason_against(plain, self._most, self.loose, self._views)
        if reason is not None:
            refuse(plain, reason)
        return self._do(plain)

    def _do(self, step):
        """Does a step that is not refused; returns the state that it asks for, or None."""
        if step[0] == "read":
            return self._stores[-1].at(step[1])
        if step[0] == "ask":
            return self._views[step[1]][2].at(step[2])
        if step[0] == "write":
            effects = batch_effects(self._kind, step[1])
            self._stores.append(on_store(self._kind, effects, self._stores[-1]))
        elif step[0] == "sync":
            self._stores = [self._stores[-1]]
        elif step[0] == "crash":
            self._stores = [self._stores[step[1]]]
            self._views = {}
        else:
            self._do_to_view(step)
        return None

    def _do_to_view(self, step):
        """Does a hold, narrow or drop that is not refused."""
        if step[0] == "drop":
            del self._views[step[1]]
            return
        _, name, a, b = step
        store = self._stores[-1] if step[0] == "hold" else self._views[name][2]
        self._views[name] = (a, b, store.within(a, b))
