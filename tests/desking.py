"""Rows of deeds of a desk, and a slow, plain way to say what a desk holds behind them."""

from leastshelf.books import Book
from leastshelf.leastruns import least_run
from leastshelf.logtexts import log_text
from leastshelf.orders import pour_order, sandwiched, split_order, way_back
from leastshelf.overlays import key_set
from leastshelf.pours import poured, split_poured
from leastshelf.runs import Run
from leastshelf.shelves import Shelf
from samples import TOP, makes, plain, random_batch, random_steps

KEYS = (*range(12), TOP - 1)


class SlowDesk:
    """What a desk holds: all its batches, the shelf that its deeds make, and its device steps."""

    def __init__(self, kind, most):
        self.kind, self.most = kind, most
        self.batches, self.kept, self.spilled, self.views = [], 0, 0, {}
        self.shelf, self.files, self.laid, self.steps, self.history = Shelf(kind, []), [], 0, [], []

    def noted(self):
        """Returns the number of the last batch."""
        return len(self.batches)

    def marks(self):
        """Returns the marks."""
        return [self.views[name] for name in sorted(self.views)]

    def state(self, key, number):
        """Returns the state of a key up to a number: what the batches up to it make of nothing."""
        word = ()
        for batch in self.batches[:number]:
            for a, b, clear, letters in batch:
                if a <= key < b:
                    word = makes(self.kind, (clear, plain(self.kind, letters)), word)
        return word

    def do(self, deed):
        """Does a deed that is neither refused nor wrong."""
        if deed[0] in ("spill", "pour", "split"):
            getattr(self, deed[0])(*deed[1:])
            return
        self.history.append(deed)
        if deed[0] == "write":
            self.batches = self.batches + [tuple(deed[1])]
            self.note([("note", self.noted())])
        if deed[0] == "sync":
            if self.kept < self.noted():
                self.note([("firm", "log"), ("tell", self.noted())])
            self.kept = self.noted()
        if deed[0] == "crash":
            self.kept += deed[1]
            self.batches, self.views, self.steps = self.batches[:self.kept], {}, None
        if deed[0] == "hold":
            self.views[deed[1]] = (self.noted(), *deed[2:])
        if deed[0] == "narrow":
            self.views[deed[1]] = (self.views[deed[1]][0], *deed[2:])
        if deed[0] == "drop":
            del self.views[deed[1]]

    def note(self, steps):
        """Takes device steps until a crash."""
        if self.steps is not None:
            self.steps = self.steps + steps

    def sheet(self):
        """Takes the device steps of a new sheet."""
        self.note([("list", self.spilled, tuple(reversed(self.files))), ("firm", "sheet")])

    def spill(self):
        """Spills, as points 139 and 144 say it."""
        run = Run.of_batches(self.kind, self.spilled, self.batches[self.spilled:self.kept])
        under = key_set([(a, b) for reach in self.shelf.reaches() for a, b, _ in reach])
        self.shelf = self.shelf.added(least_run([run], self.marks(), under))
        self.spilled = self.kept
        self.files = [self.laid] + self.files
        self.note([("lay", self.laid), ("firm", self.laid)])
        self.laid += 1
        self.sheet()
        self.note([("trim", self.spilled)])

    def pour(self, lot):
        """Pours, as points 139 and 144 say it."""
        gone = sorted(self.files[place] for place in set(lot))
        order = pour_order(self.shelf.reaches(), lot)
        self.shelf = poured(self.shelf, lot, self.marks())
        self.files = [self.laid if place is None else self.files[place] for place in order]
        self.note([("lay", self.laid), ("firm", self.laid)])
        self.laid += 1
        self.sheet()
        self.note([("clear", file) for file in gone])

    def split(self, lot):
        """Splits, as points 139 and 144 say it."""
        order = split_order(self.shelf.reaches(), lot)
        self.shelf = split_poured(self.shelf, lot, self.marks())
        outcomes = sorted((entry[1], entry) for entry in order if isinstance(entry, tuple))
        if not outcomes:
            return
        new = {entry: self.laid + at for at, (_, entry) in enumerate(outcomes)}
        before = self.files
        self.files = [new[entry] if isinstance(entry, tuple) else before[entry] for entry in order]
        self.note([("lay", new[entry]) for _, entry in outcomes])
        self.note([("firm", new[entry]) for _, entry in outcomes])
        self.laid += len(outcomes)
        self.sheet()
        self.note([("clear", file) for file in sorted(before) if file not in self.files])

    def log(self):
        """Returns the log."""
        return [(number + 1, self.batches[number]) for number in range(self.spilled, self.noted())]

    def text(self):
        """Returns the log text."""
        return log_text(self.spilled + 1, self.batches[self.spilled:])


def shelf_deeds(rng, shelf):
    """Returns a deed of the shelf that is done, or None."""
    lot = [rng.randrange(len(shelf)) for _ in range(rng.randrange(1, 4))] if len(shelf) else []
    choices = []
    if lot and way_back(shelf.reaches(), lot) is None:
        choices.append(("pour", lot))
    if lot and sandwiched(shelf.reaches(), lot) is None:
        choices.append(("split", tuple(lot)))
    return rng.choice(choices) if choices else None


def random_deeds(rng, kind, most, many, crashes=0.3, keys=8):
    """Yields deeds and questions of a desk, each with the slow desk ahead of it; all deeds but those of books are done.

    The slow desk does the step behind the yield, if a book does not refuse it.
    """
    slow, book = SlowDesk(kind, most), Book(kind, most=most)
    steps = random_steps(rng, many, keys)
    for step in steps:
        if rng.random() < 0.45:
            deed = shelf_deeds(rng, slow.shelf)
            if slow.spilled < slow.kept and rng.random() < 0.5:
                deed = ("spill",)
            if deed is not None:
                yield deed, slow, book
                slow.do(deed)
        if step[0] == "crash" and rng.random() > crashes:
            step = ("write", random_batch(rng, keys))
        yield step, slow, book
        if book.answer(step) == ("done",):
            slow.do(step)


def do_deed(desk, deed):
    """Does a deed of the shelf, or a step of a book; returns the answer of the latter."""
    if deed[0] == "spill":
        return desk.spill()
    if deed[0] == "pour":
        return desk.pour(deed[1])
    if deed[0] == "split":
        return desk.pour_split(deed[1])
    return desk.answer(deed)
