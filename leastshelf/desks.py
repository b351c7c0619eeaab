"""Desks: a log and a shelf that answer as a book does, and the deeds that move batches from one to the other."""

from leastshelf.batches import batch_effects
from leastshelf.books import reason_against, refuse
from leastshelf.deeds import is_deed, is_name, plain_step
from leastshelf.effects import effect_on, then
from leastshelf.errors import BadLog, BadStep, Refused, Unknown
from leastshelf.kinds import check_kind
from leastshelf.leastruns import entry_count, least_run, whole_counts
from leastshelf.leasts import check_most
from leastshelf.logtexts import log_text
from leastshelf.orders import pour_order, split_order
from leastshelf.overlays import key_set, overlay
from leastshelf.pours import poured, split_poured
from leastshelf.runs import Run
from leastshelf.shelves import Shelf
from leastshelf.stretches import check_key


class DeskState:
    """What a desk holds between two deeds. No state is changed once a desk has it: deeds change a copy."""

    def __init__(self, stock):
        # the numbers of the last batch, of the last one that no crash can take, and of the last one on the shelf
        self.last = 0
        self.safe = 0
        self.moved = 0
        # the log: tuples of a number, a batch and its field of effects
        self.lines = ()
        # by the names of the live views: the two ends of the stretch, and the number
        self.live = {}
        self.stock = stock
        # the files of the runs on the shelf, the newest run first, and how many files were laid so far
        self.files = ()
        self.laid = 0
        # the device steps, None when a crash was done
        self.trail = ()

    def copied(self):
        """Returns a new state that holds the same."""
        other = DeskState(self.stock)
        other.last = self.last
        other.safe = self.safe
        other.moved = self.moved
        other.lines = self.lines
        other.live = self.live
        other.files = self.files
        other.laid = self.laid
        other.trail = self.trail
        return other

    def follow(self, steps):
        """Takes more device steps, unless a crash was done."""
        if self.trail is not None:
            self.trail = (*self.trail, *steps)

    def restock(self, stock, files, new):
        """Takes another shelf and its files: lays the new ones, lists all, clears those that are left over."""
        gone = [file for file in sorted(self.files) if file not in files]
        self.stock = stock
        self.files = tuple(files)
        self.laid = self.laid + len(new)
        self.follow([("lay", file) for file in new])
        self.follow([("firm", file) for file in new])
        self.follow([("list", self.moved, self.files[::-1]), ("firm", "sheet")])
        self.follow([("clear", file) for file in gone])


def word_behind(kind, things):
    """Returns what the effects behind the first of some things make of it, a word."""
    word, *effects = things
    return effect_on(kind, then(kind, *effects), word)


def effects_up_to_number(state, number):
    """Returns the list of the fields of effects of the batches of the log up to a number."""
    return [effects for at, _, effects in state.lines if at <= number]


def state_at(kind, state, key, number):
    """Returns the state of a key up to a number."""
    effects = [field.at(key) for field in effects_up_to_number(state, number)]
    return word_behind(kind, [state.stock.read(key, number), *effects])


def store_up_to(kind, state, number):
    """Returns the store up to a number."""
    layers = [state.stock.reads(number), *effects_up_to_number(state, number)]
    return overlay(layers, lambda things: word_behind(kind, things), neutral=())


def marks_of(state):
    """Returns the list of the marks of the live views, by ascending names."""
    views = [state.live[name] for name in sorted(state.live)]
    return [(number, a, b) for a, b, number in views]


def behind_write(kind, state, batch):
    """Returns the state behind the write of a batch."""
    out = state.copied()
    out.last = state.last + 1
    out.lines = (*state.lines, (out.last, batch, batch_effects(kind, batch)))
    out.follow([("note", out.last)])
    return out


def behind_sync(state):
    """Returns the state behind a sync."""
    out = state.copied()
    out.safe = state.last
    if state.safe < state.last:
        out.follow([("firm", "log"), ("tell", state.last)])
    return out


def behind_crash(state, number):
    """Returns the state behind the crash to a number."""
    out = state.copied()
    out.safe = state.safe + number
    out.last = out.safe
    out.lines = tuple([line for line in state.lines if line[0] <= out.last])
    out.live = {}
    out.trail = None
    return out


def behind_view_deed(state, step):
    """Returns the state behind a hold, narrow or drop."""
    out = state.copied()
    if step[0] == "drop":
        out.live = {name: state.live[name] for name in state.live if name != step[1]}
        return out
    _, name, a, b = step
    number = state.last if step[0] == "hold" else state.live[name][2]
    out.live = {**state.live, name: (a, b, number)}
    return out


def behind_deed(kind, state, step):
    """Returns the state behind a deed of a book that is not refused."""
    if step[0] == "write":
        return behind_write(kind, state, step[1])
    if step[0] == "sync":
        return behind_sync(state)
    if step[0] == "crash":
        return behind_crash(state, step[1])
    return behind_view_deed(state, step)


def behind_spill(kind, state):
    """Returns the state behind a spill of the batches that no crash can take; there is one at least."""
    batches = [batch for number, batch, _ in state.lines if number <= state.safe]
    run = Run.of_batches(kind, state.moved, batches)
    under = key_set([(a, b) for reach in state.stock.reaches() for a, b, _ in reach])
    least = least_run([run], marks_of(state), under)
    out = state.copied()
    out.lines = tuple([line for line in state.lines if line[0] > state.safe])
    out.moved = state.safe
    out.restock(state.stock.added(least), [state.laid, *state.files], [state.laid])
    out.follow([("trim", out.moved)])
    return out


def behind_pour(state, lot):
    """Returns the state behind the pour of a lot."""
    stock = poured(state.stock, lot, marks_of(state))
    order = pour_order(state.stock.reaches(), lot)
    out = state.copied()
    out.restock(stock, [state.laid if place is None else state.files[place] for place in order], [state.laid])
    return out


def behind_split(state, lot):
    """Returns the state behind the split of a lot; the same one if there is no outcome."""
    stock = split_poured(state.stock, lot, marks_of(state))
    order = split_order(state.stock.reaches(), lot)
    outcomes = sorted([entry for entry in order if isinstance(entry, tuple)], key=lambda entry: entry[1])
    if not outcomes:
        return state
    new = {entry: state.laid + at for at, entry in enumerate(outcomes)}
    out = state.copied()
    files = [new[entry] if entry in new else state.files[entry] for entry in order]
    out.restock(stock, files, list(new.values()))
    return out


def common_lines(one, other):
    """Returns the number of line feeds in the longest beginning that two texts have in common."""
    many = 0
    for left, right in zip(one, other):
        if left != right:
            break
        if left == "\n":
            many += 1
    return many


class Desk:
    """A desk: a log, a shelf and live views, which answer as a book does."""

    def __init__(self, kind, *, most=8):
        self._kind = check_kind(kind)
        self._most = check_most(most)
        self._state = DeskState(Shelf(kind, []))

    @property
    def kind(self):
        """The kind."""
        return self._kind

    @property
    def most(self):
        """The limit."""
        return self._most

    @property
    def loose(self):
        """The number of loose batches."""
        return self._state.last - self._state.safe

    @property
    def noted(self):
        """The number of the last batch."""
        return self._state.last

    @property
    def kept(self):
        """The number of the last batch that no crash can take."""
        return self._state.safe

    @property
    def spilled(self):
        """The number of the last batch that has come to the shelf."""
        return self._state.moved

    def write(self, batch):
        """Writes a batch."""
        self._take(("write", batch))

    def sync(self):
        """Makes sure that no crash can take the batches so far."""
        self._take(("sync",))

    def crash(self, number):
        """Keeps this number of the loose batches alone; all views end."""
        self._take(("crash", number))

    def hold(self, name, a, b):
        """Holds a view of the store of now."""
        self._take(("hold", name, a, b))

    def narrow(self, name, a, b):
        """Narrows a view to a stretch within its own."""
        self._take(("narrow", name, a, b))

    def drop(self, name):
        """Ends a view."""
        self._take(("drop", name))

    def read(self, key):
        """Returns the state of a key in the store of now."""
        return self._take(("read", key))

    def ask(self, name, key):
        """Returns the state of a key in the store of a view."""
        return self._take(("ask", name, key))

    def answer(self, step):
        """Does a step of a book and returns its answer."""
        plain = plain_step(self._kind, step)
        reason = reason_against(plain, self._most, self.loose, self._state.live)
        if reason is not None:
            return ("refused", reason)
        state = self._do(plain)
        if is_deed(plain):
            return ("done",)
        return ("word", state)

    def store(self):
        """Returns the list of the pieces of the store of now."""
        return store_up_to(self._kind, self._state, self._state.last).pieces()

    def view(self, name):
        """Returns a tuple of the two ends of a view and the list of its pieces."""
        if not is_name(name):
            raise BadStep(0)
        if name not in self._state.live:
            raise Unknown(name)
        a, b, number = self._state.live[name]
        return (a, b, store_up_to(self._kind, self._state, number).within(a, b).pieces())

    def names(self):
        """Returns the list of the live names, ascending."""
        return sorted(self._state.live)

    def least_store(self):
        """Returns the least store, as tuples throughout."""
        state = self._state
        numbers = list(range(state.safe, state.last + 1))
        stores = {}
        for number in [*numbers, *[view[2] for view in state.live.values()]]:
            if number not in stores:
                stores[number] = store_up_to(self._kind, state, number)
        views = []
        for name in self.names():
            a, b, number = state.live[name]
            views.append((name, a, b, tuple(stores[number].within(a, b).pieces())))
        return (tuple([tuple(stores[number].pieces()) for number in numbers]), tuple(views))

    def twin(self):
        """Returns a new desk in the same state."""
        desk = Desk(self._kind, most=self._most)
        desk._state = self._state
        return desk

    def spill(self):
        """Moves the batches that no crash can take from the log to the shelf; raises Refused without any."""
        if self._state.moved == self._state.safe:
            raise Refused("spill")
        self._state = behind_spill(self._kind, self._state)

    def pour(self, lot):
        """Pours a lot of the shelf."""
        self._state = behind_pour(self._state, lot)

    def pour_split(self, lot):
        """Splits a lot of the shelf."""
        self._state = behind_split(self._state, lot)

    def shelf(self):
        """Returns the shelf."""
        return self._state.stock

    def marks(self):
        """Returns the list of the marks."""
        return marks_of(self._state)

    def log(self):
        """Returns the list of the tuples (number, batch) of the log."""
        return [(number, batch) for number, batch, _ in self._state.lines]

    def steps(self):
        """Returns the list of the device steps, or None when a crash was done."""
        if self._state.trail is None:
            return None
        return list(self._state.trail)

    def as_text(self):
        """Returns the log text."""
        return log_text(self._state.moved + 1, [batch for _, batch, _ in self._state.lines])

    def crash_text(self, text):
        """Does the crash that leaves a beginning of the log text; raises BadLog and Refused."""
        whole = self.as_text()
        if not isinstance(text, str):
            raise BadLog(0)
        if not whole.startswith(text):
            raise BadLog(common_lines(whole, text))
        number = text.count("\n") - (self._state.safe - self._state.moved)
        if number < 0:
            raise Refused("crash")
        self.crash(number)

    def count_at(self, key):
        """Returns the number of entries of the runs at a key, and of batches of the log that are not idle there."""
        check_key(key)
        entries = sum([entry_count(run, key) for run in self._state.stock])
        return entries + len([number for number, _, effects in self._state.lines if key in effects])

    def whole_count(self):
        """Returns the counts added over all keys."""
        entries = sum([whole_counts(run)[0] for run in self._state.stock])
        return entries + sum([effects.size for _, _, effects in self._state.lines])

    def _take(self, step):
        """Does a step of a book and returns the state that it asks for; raises what refuses it."""
        plain = plain_step(self._kind, step)
        reason = reason_against(plain, self._most, self.loose, self._state.live)
        if reason is not None:
            refuse(plain, reason)
        return self._do(plain)

    def _do(self, step):
        """Does a step that is not refused; returns the state that it asks for, or None."""
        state = self._state
        if step[0] == "read":
            return state_at(self._kind, state, step[1], state.last)
        if step[0] == "ask":
            return state_at(self._kind, state, step[2], state.live[step[1]][2])
        self._state = behind_deed(self._kind, state, step)
        return None
