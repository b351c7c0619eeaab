"""Runs: entry rows for keys, within a window of numbers and a reach of keys."""

from leastshelf.batches import batch_effects, check_batch
from leastshelf.effects import IDLE, effect_on
from leastshelf.entries import effect_up_to, is_entry_row
from leastshelf.errors import BadRun
from leastshelf.fields import Field, check_pieces
from leastshelf.kinds import check_kind, is_whole
from leastshelf.overlays import key_set, overlay


def check_window(begin, end):
    """Raises BadRun if begin and end, any values, make no window."""
    if not is_whole(begin) or not is_whole(end) or not 0 <= begin < end:
        raise BadRun("window")


def check_reach(reach):
    """Raises BadRun for any value that is no key set."""
    if not isinstance(reach, Field) or reach.neutral is not False:
        raise BadRun("reach")
    if not all([thing is True for _, _, thing in reach]):
        raise BadRun("reach")


def check_rows(kind, begin, end, reach, pieces):
    """Raises BadRun with the place of the first piece that does not fit such a run."""
    stretches = reach.pieces()
    at = 0
    for place, (a, b, thing) in enumerate(pieces):
        if not is_entry_row(kind, begin, end, thing):
            raise BadRun(place)
        # pieces ascend, so no stretch that ends ahead of this one is needed again
        while at < len(stretches) and stretches[at][1] <= a:
            at += 1
        inside = at < len(stretches) and stretches[at][0] <= a and b <= stretches[at][1]
        if thing != () and not inside:
            raise BadRun(place)


def entry_row_of(begin, effects):
    """Returns the entry row of the effects of batches numbered from begin + 1."""
    rows = [(begin + 1 + at, effect) for at, effect in enumerate(effects) if effect != IDLE]
    return tuple([(number, clear, word) for number, (clear, word) in rows])


class Run:
    """A run: a kind, a window, a reach, and the contents, a field of entry rows."""

    def __init__(self, kind, begin, end, reach, pieces):
        check_kind(kind)
        check_window(begin, end)
        check_reach(reach)
        check_pieces(pieces)
        check_rows(kind, begin, end, reach, pieces)
        self._kind = kind
        self._begin = begin
        self._end = end
        self._reach = reach
        self._contents = Field((), pieces)

    @staticmethod
    def of_batches(kind, begin, batches):
        """Returns the run that a row of batches, numbered from begin + 1, makes."""
        check_kind(kind)
        if not is_whole(begin) or begin < 0 or len(batches) == 0:
            raise BadRun("window")
        plain = [check_batch(kind, batch) for batch in batches]
        layers = [batch_effects(kind, batch) for batch in plain]
        contents = overlay(layers, lambda effects: entry_row_of(begin, effects), neutral=())
        reach = key_set([(a, b) for batch in plain for a, b, _, _ in batch])
        return Run(kind, begin, begin + len(plain), reach, contents.pieces())

    @property
    def kind(self):
        """The kind."""
        return self._kind

    @property
    def begin(self):
        """The begin of the window, the number ahead of the first one."""
        return self._begin

    @property
    def end(self):
        """The end of the window, its last number."""
        return self._end

    def reach(self):
        """Returns the key set of the reach."""
        return self._reach

    def contents(self):
        """Returns the field of the entry rows."""
        return self._contents

    def pieces(self):
        """Returns the list of the pieces of the contents."""
        return self._contents.pieces()

    def entries_at(self, key):
        """Returns the entry row at a key."""
        return self._contents.at(key)

    def up_to(self, key, number):
        """Returns the effect at a key up to a number."""
        return effect_up_to(self._kind, self.entries_at(key), number)

    def within(self, a, b):
        """Returns the run with its reach and contents within the stretch (a, b)."""
        contents = self._contents.within(a, b)
        return Run(self._kind, self._begin, self._end, self._reach.within(a, b), contents.pieces())

    def applied(self, store, number):
        """Returns the store that the run makes of a store up to a number."""
        kind = self._kind
        return overlay(
            [self._contents, store],
            lambda things: effect_on(kind, effect_up_to(kind, things[0], number), things[1]),
            neutral=(),
        )

    def __eq__(self, other):
        if not isinstance(other, Run) or self._kind != other._kind:
            return False
        if self._begin != other._begin or self._end != other._end:
            return False
        return self._reach == other._reach and self._contents == other._contents

    def __len__(self):
        return len(self._contents)

    def __contains__(self, key):
        return key in self._reach
