"""Shelves: runs of one kind, one above another."""

from leastshelf.effects import then
from leastshelf.entries import effect_up_to
from leastshelf.errors import BadRun, NoPlace
from leastshelf.kinds import check_kind, is_row
from leastshelf.overlays import meeting, overlay
from leastshelf.runs import Run
from leastshelf.stretches import check_key
from leastshelf.tables import is_number_below


def check_place(place, many):
    """Raises NoPlace for any value that is no place of a shelf with so many runs."""
    if not is_number_below(place, many):
        raise NoPlace(place)


def check_lot(lot, many):
    """Returns the list of the places of a lot, ascending; raises NoPlace for any other value."""
    if not is_row(lot) or len(lot) == 0:
        raise NoPlace(None)
    for entry in lot:
        check_place(entry, many)
    return sorted(set(lot))


def check_run(kind, thing, place):
    """Raises BadRun with the place for any value that is no run of the kind."""
    if not isinstance(thing, Run) or thing.kind != kind:
        raise BadRun(place)


def word_of(kind, rows, number):
    """Returns what the entry rows up to a number, the newest first, make of the word ()."""
    effects = [effect_up_to(kind, row, number) for row in rows[::-1]]
    return then(kind, *effects)[1]


class Shelf:
    """A shelf: a row of runs of one kind, the newest first."""

    def __init__(self, kind, runs):
        check_kind(kind)
        for place, thing in enumerate(runs):
            check_run(kind, thing, place)
        self._kind = kind
        self._runs = list(runs)

    @property
    def kind(self):
        """The kind."""
        return self._kind

    def runs(self):
        """Returns the list of the runs, the newest first."""
        return list(self._runs)

    def reaches(self):
        """Returns the list of the reaches of the runs, the newest first."""
        return [run.reach() for run in self._runs]

    def run_at(self, place):
        """Returns the run at a place."""
        check_place(place, len(self._runs))
        return self._runs[place]

    def read(self, key, number=None):
        """Returns the read at a key up to a number, that of now if it is None."""
        check_key(key)
        rows = [run.entries_at(key) for run in self._runs]
        return word_of(self._kind, rows, self._number_for(number))

    def reads(self, number=None):
        """Returns the store of the reads up to a number, those of now if it is None."""
        layers = [run.contents() for run in self._runs]
        kind = self._kind
        most = self._number_for(number)
        return overlay(layers, lambda rows: word_of(kind, rows, most), neutral=())

    def added(self, run):
        """Returns the shelf with one more run, the newest."""
        check_run(self._kind, run, 0)
        return Shelf(self._kind, [run, *self._runs])

    def order_fault(self, *, throughout=False):
        """Returns the first places of two runs whose windows are not in order, or None."""
        for i, run in enumerate(self._runs):
            for j in range(i + 1, len(self._runs)):
                older = self._runs[j]
                if run.begin < older.end and (throughout or meeting(run.reach(), older.reach()) is not None):
                    return (i, j)
        return None

    def __eq__(self, other):
        return isinstance(other, Shelf) and self._kind == other._kind and self._runs == other._runs

    def __len__(self):
        return len(self._runs)

    def __iter__(self):
        return iter(self._runs)

    def _number_for(self, number):
        """Returns the number up to which a read counts entries; that of now counts all of them."""
        if number is None:
            return max([run.end for run in self._runs], default=0)
        return number
