"""Points 94 to 98 and 102: pouring and splitting the lots of a shelf."""

import itertools
import unittest

from leastshelf.errors import BadMark, BadRun, NoPlace, NotClosed, Sandwiched, Unordered
from leastshelf.leastruns import least_run
from leastshelf.noticed import parting_beneath
from leastshelf.orders import below, lots_order, pour_order, sandwiched, split_order, way_back
from leastshelf.overlays import key_set
from leastshelf.pours import beneath, in_place, poured, poured_lots, split_poured, stack_of
from leastshelf.rows import stack_reach, stack_window
from leastshelf.runs import Run
from leastshelf.shelves import Shelf
from leastshelf.steps import step
from samples import KINDS, ODD_VALUES, TOP, Raising, makes, normal_form, plain, seeded
from stacks import (ALL_KEYS, CELL_KEYS, CELLS, NO_KEYS, cell, one_run, random_effect, random_marks, slow_cuts, slow_up_to)
from test_cuts import BAD_MARK_ROWS, BAD_MARKS
from test_orders import BAD_LOTS, BAD_PLACES
from test_shelves import random_shelf

MOST = 10 ** 9


def top_of(shelf):
    """Returns the greatest end of the windows of a shelf."""
    return max(run.end for run in shelf)


def samples(number, many=30, ordered=True, reach=0.4, most=5):
    """Yields shelves with a lot and marks."""
    rng = seeded(number)
    for kind in KINDS:
        for _ in range(many):
            shelf = random_shelf(rng, kind, most, ordered, rng.choice((2, 3)), reach)
            lot = [rng.randrange(len(shelf)) for _ in range(rng.randrange(1, 4))]
            yield shelf, rng.choice((lot, tuple(lot))), random_marks(rng, top_of(shelf))


def told_reads(shelf, marks):
    """Returns the reads of now, and up to each mark at its keys."""
    numbers = [(MOST, 0, TOP), *marks]
    return [[shelf.read(key, number) for key in CELL_KEYS if a <= key < b] for number, a, b in numbers]


def keys_of(shelf, places):
    """Returns the key set of the keys that some places have."""
    return key_set([(a, b) for place in places for a, b, _ in shelf.run_at(place).reach()])


def refilled(rng, shelf, lot):
    """Returns the shelf with other entries in the runs that are not of the lot."""
    runs = []
    for place, run in enumerate(shelf):
        if place not in lot:
            pieces = [(at, row) for at in range(CELLS) for row in [random_entries(rng, run)] if run.reach().at(cell(at)[0])]
            run = Run(run.kind, run.begin, run.end, run.reach(), [(*cell(at), row) for at, row in pieces])
        runs.append(run)
    return Shelf(shelf.kind, runs)


def random_entries(rng, run):
    """Returns an entry row of the window of a run."""
    return tuple((number, *random_effect(rng, run.kind)) for number in range(run.begin + 1, run.end + 1) if rng.random() < 0.5)


class PartsTest(Raising, unittest.TestCase):
    def test_stacks_and_keys_beneath(self):
        for shelf, lot, _ in samples(94):
            stack = stack_of(shelf, lot)
            self.assertIsInstance(stack, list)
            self.assertEqual(stack, [shelf.run_at(place) for place in sorted(set(lot), reverse=True)])
            keys = beneath(shelf, lot)
            self.assertIs(keys.neutral, False)
            deep = below(shelf.reaches(), lot)
            for key in CELL_KEYS:
                self.assertIs(keys.at(key), any(shelf.reaches()[place].at(key) for place in deep))

    def test_in_place(self):
        for shelf, lot, _ in samples(940):
            run = Run(shelf.kind, 40, 41, ALL_KEYS, [(0, TOP, ((41, True, ()),))])
            back = way_back(shelf.reaches(), lot)
            if back is not None:
                self.raised(NotClosed, [back[1]], in_place, shelf, lot, run)
                self.raised(NotClosed, [back[1]], in_place, shelf, lot, None)
                continue
            order = pour_order(shelf.reaches(), lot)
            told = in_place(shelf, lot, run)
            self.assertIsInstance(told, Shelf)
            self.assertEqual(told, Shelf(shelf.kind, [run if place is None else shelf.run_at(place) for place in order]))
            other = Run("list" if shelf.kind != "list" else "set", 40, 41, ALL_KEYS, [])
            for thing in ODD_VALUES + (other, [run]):
                self.raised(BadRun, [order.index(None)], in_place, shelf, lot, thing)

    def test_bad_lots(self):
        put = one_run("set", 0, 1, ((1, True, (1,)),))
        shelf = Shelf("set", [put, put, put])
        calls = ((stack_of,), (beneath,), (in_place, None), (poured, None), (split_poured, None))
        for call, *more in calls:
            for lot in BAD_LOTS:
                self.raised(NoPlace, [None], call, shelf, lot, *more)
            for place in BAD_PLACES:
                self.raised(NoPlace, [place], call, shelf, [0, place, None], *more)
            self.raised(NoPlace, [0], call, Shelf("set", []), [0], *more)
        for lot in BAD_LOTS:
            self.raised(NoPlace, [None], poured_lots, shelf, [[0], lot], None)
        for place in BAD_PLACES:
            self.raised(NoPlace, [place], poured_lots, shelf, [[0], [0, place]], None)
        self.raised(NoPlace, [1], poured_lots, shelf, [[0, 1], [2, 1]], None)

    def test_bad_marks(self):
        runs = [one_run("set", number, number + 1, ((number + 1, True, (1,)),)) for number in (2, 1, 0)]
        shelf = Shelf("set", runs)
        for thing in BAD_MARK_ROWS:
            self.raised(BadMark, [0], poured, shelf, [0, 2], thing)
            self.raised(BadMark, [0], split_poured, shelf, [0, 2], thing)
            self.raised(BadMark, [0], poured_lots, shelf, [[0, 2]], thing)
            self.raised(BadMark, [0], poured_lots, shelf, [], thing)
        for thing in BAD_MARKS:
            marks = [(1, 0, 2), thing]
            self.raised(BadMark, [1], poured, shelf, [0, 2], marks)
            self.raised(BadMark, [1], split_poured, shelf, [0, 2], marks)
            self.raised(BadMark, [1], poured_lots, shelf, [[0, 2]], marks)
        self.raised(NotClosed, [1], poured, shelf, [0, 2], [])
        self.raised(Sandwiched, [0], split_poured, shelf, [0, 2], [])
        self.raised(NotClosed, [0], poured_lots, shelf, [[0, 2]], [])
        self.raised(NotClosed, [0], poured_lots, shelf, [[2, 0], [1]], [])


class PouredTest(Raising, unittest.TestCase):
    def test_point_95_outcomes(self):
        closed = 0
        for shelf, lot, marks in samples(95):
            back = way_back(shelf.reaches(), lot)
            if back is not None:
                self.raised(NotClosed, [back[1]], poured, shelf, lot, marks)
                continue
            closed += 1
            outcome = least_run(stack_of(shelf, lot), marks, beneath(shelf, lot))
            told = poured(shelf, lot, marks)
            self.assertEqual(told, in_place(shelf, lot, outcome))
            self.assertEqual(told_reads(told, marks), told_reads(shelf, marks))
        self.assertGreater(closed, 100)

    def test_point_95_reads_are_kept_whatever_the_outside_runs_hold(self):
        rng = seeded(950)
        for shelf, lot, marks in samples(951, 15):
            if way_back(shelf.reaches(), lot) is None:
                outcome = least_run(stack_of(shelf, lot), marks, beneath(shelf, lot))
                for _ in range(3):
                    other = refilled(rng, shelf, lot)
                    self.assertEqual(told_reads(in_place(other, lot, outcome), marks), told_reads(other, marks))

    def test_point_94_turned_pairs_change_reads(self):
        rng = seeded(941)
        turned = 0
        for shelf, lot, _ in samples(942, 12):
            reaches, many = shelf.reaches(), len(shelf)
            order = [place for place in range(many) if place not in lot] + [None]
            rng.shuffle(order)
            spots = [order.index(None if place in lot else place) for place in range(many)]
            for i, j in itertools.combinations(range(many), 2):
                shared = [key for key in CELL_KEYS if reaches[i].at(key) and reaches[j].at(key)]
                if shared and spots[j] < spots[i]:
                    self.turned_pair(shelf, set(lot), order, i, j, shared[0])
                    turned += 1
        self.assertGreater(turned, 20)

    def turned_pair(self, shelf, lot, order, i, j, key):
        """The read of now was the word of i and becomes that of j, if they put them and nothing else is there."""
        runs = [Run(shelf.kind, run.begin, run.end, run.reach(), []) for run in shelf]
        for place, letter in ((i, 1), (j, 2)):
            run = runs[place]
            word = plain(shelf.kind, (letter,))
            runs[place] = Run(run.kind, run.begin, run.end, run.reach(), [(key, key + 1, ((run.end, True, word),))])
        stack = [runs[place] for place in sorted(lot, reverse=True)]
        begin, end = stack_window(stack)
        clear, word = slow_up_to(stack, key, MOST)
        pieces = [] if (clear, word) == (False, ()) else [(key, key + 1, ((end, clear, word),))]
        outcome = Run(shelf.kind, begin, end, stack_reach(stack), pieces)
        other = Shelf(shelf.kind, [outcome if place is None else runs[place] for place in order])
        self.assertEqual(Shelf(shelf.kind, runs).read(key), plain(shelf.kind, (1,)))
        self.assertEqual(other.read(key), plain(shelf.kind, (2,)))

    def test_windows_that_are_not_in_order(self):
        old, new = one_run("list", 1, 2, ((2, False, (1,)),)), one_run("list", 0, 1, ((1, False, (2,)),))
        deep = one_run("list", 0, 1, ())
        marks = [(1, 0, 1)]
        self.raised(Unordered, [0], poured, Shelf("list", [new, old, deep]), [0, 1], marks)
        self.assertEqual(poured(Shelf("list", [new, old, deep]), [0, 1, 2], marks).read(0), (1, 2))
        self.assertEqual(poured(Shelf("list", [new, old, deep]), [0, 1], []).read(0), (1, 2))
        self.raised(Unordered, [0], split_poured, Shelf("list", [new, old, deep]), [0, 1], marks)
        self.raised(Unordered, [0], poured_lots, Shelf("list", [new, old, deep]), [[1, 0]], marks)
        far = [Run("list", run.begin, run.end, key_set([(5, 6)]), [(5, 6, row) for _, _, row in run.pieces()])
               for run in (new, old, deep)]
        shelf = Shelf("list", [far[0], far[1], new, old, far[2], deep])
        wide = [(1, 0, 9)]
        self.raised(Unordered, [5], poured_lots, shelf, [[2, 3], [0, 1]], wide)
        self.raised(Unordered, [0], poured_lots, shelf, [[2, 3], [0, 1]], marks)
        self.raised(Unordered, [5], split_poured, shelf, [0, 1, 2, 3], wide)
        self.raised(Unordered, [0], split_poured, shelf, [3, 2, 1, 0], marks)
        self.raised(Unordered, [0], poured, shelf, [0, 1, 2, 3], wide)

    def test_errors_about_lots_come_ahead_of_unordered_ones(self):
        old, new = one_run("list", 1, 2, ((2, False, (1,)),)), one_run("list", 0, 1, ((1, False, (2,)),))
        mid = one_run("list", 0, 1, ())
        shelf, marks = Shelf("list", [new, mid, old]), [(1, 0, 1)]
        self.raised(Unordered, [0], least_run, stack_of(shelf, [0, 2]), marks, beneath(shelf, [0, 2]))
        self.raised(NotClosed, [1], poured, shelf, [0, 2], marks)
        self.raised(Sandwiched, [0], split_poured, shelf, [0, 2], marks)
        self.raised(NotClosed, [0], poured_lots, shelf, [[0, 2]], marks)

    def test_the_keys_beneath_are_those_of_the_places_below_alone(self):
        for kind in KINDS:
            stone = Run(kind, 2, 3, key_set([(0, 3)]), [(0, 3, ((3, True, ()),))])
            mid, deep = Run(kind, 1, 2, key_set([(0, 1), (5, 6)]), []), Run(kind, 0, 1, key_set([(2, 3), (5, 6)]), [])
            shelf = Shelf(kind, [stone, mid, deep])
            self.assertEqual(poured(shelf, [0], []).run_at(0).pieces(), [(0, 1, ((3, True, ()),)), (2, 3, ((3, True, ()),))])
            self.assertEqual(poured(shelf, [0, 1], []).run_at(0).pieces(), [(2, 3, ((3, True, ()),))])
            self.assertEqual(poured(shelf, [2, 1, 0], []), Shelf(kind, [Run(kind, 0, 3, key_set([(0, 3), (5, 6)]), [])]))
            self.assertEqual(poured(Shelf(kind, [mid, stone]), [1], []).run_at(1).pieces(), [])

    def test_point_1_shelves_and_arguments_stay(self):
        for shelf, lot, marks in samples(952, 4):
            runs, places, told = shelf.runs(), list(lot), list(marks)
            for call in (poured, split_poured, lambda one, two, three: poured_lots(one, [two], three)):
                try:
                    call(shelf, lot, marks).runs().clear()
                except (NotClosed, Sandwiched):
                    pass
            stack_of(shelf, lot).clear()
            self.assertEqual((shelf.runs(), list(lot), marks), (runs, places, told))


class SplitTest(Raising, unittest.TestCase):
    def slow_outcome(self, shelf, lot, marks, a, b):
        """Returns the outcome of a gap, as point 96 says it."""
        held = [place for place in sorted(set(lot)) if shelf.run_at(place).reach().at(a)]
        stack = [shelf.run_at(place).within(a, b) for place in reversed(held)]
        behind = [place for place in range(max(held), len(shelf)) if place not in lot and shelf.reaches()[place].at(a)]
        return least_run(stack, marks, key_set([(a, b)]) if behind else NO_KEYS)

    def test_point_96(self):
        split = 0
        for shelf, lot, marks in samples(96, 40):
            told = sandwiched(shelf.reaches(), lot)
            if told is not None:
                self.raised(Sandwiched, [told[0]], split_poured, shelf, lot, marks)
                continue
            runs = []
            for entry in split_order(shelf.reaches(), lot):
                if isinstance(entry, tuple):
                    runs.append(self.slow_outcome(shelf, lot, marks, *entry[1:]))
                    split += 1
                else:
                    runs.append(shelf.run_at(entry))
            other = split_poured(shelf, lot, marks)
            self.assertEqual(other, Shelf(shelf.kind, runs))
            self.assertEqual(told_reads(other, marks), told_reads(shelf, marks))
        self.assertGreater(split, 200)

    def test_point_96_reads_are_kept_whatever_the_runs_hold(self):
        rng = seeded(960)
        for shelf, lot, marks in samples(961, 12):
            if sandwiched(shelf.reaches(), lot) is None:
                other = refilled(rng, shelf, [])
                self.assertEqual(told_reads(split_poured(other, lot, marks), marks), told_reads(other, marks))

    def test_outside_places_ahead_of_a_gap_say_nothing(self):
        for kind in KINDS:
            stone = Run(kind, 1, 2, key_set([(0, 4)]), [(0, 4, ((2, True, ()),))])
            ahead, behind = Run(kind, 2, 3, key_set([(0, 2)]), []), Run(kind, 0, 1, key_set([(1, 3)]), [])
            told = split_poured(Shelf(kind, [ahead, stone, behind]), [1], [])
            windows = [(run.begin, run.end) for run in told]
            self.assertEqual(windows, [(2, 3), (1, 2), (1, 2), (1, 2), (1, 2), (0, 1)])
            self.assertEqual([run.reach().pieces() for run in told][1:5], [[(at, at + 1, True)] for at in range(4)])
            self.assertEqual([len(run) for run in told], [0, 0, 1, 1, 0, 0])

    def test_a_lot_without_keys(self):
        shelf = Shelf("set", [Run("set", 1, 2, NO_KEYS, []), Run("set", 0, 1, NO_KEYS, [])])
        self.assertEqual((split_poured(shelf, [0, 1], []), len(split_poured(shelf, [1], []))), (shelf, 2))
        self.assertEqual(poured(shelf, [0, 1], []), Shelf("set", [Run("set", 0, 2, NO_KEYS, [])]))


class LotsTest(Raising, unittest.TestCase):
    def test_point_97(self):
        rng = seeded(97)
        done = 0
        for shelf, _, marks in samples(970, 25, True, 0.3, 6):
            places = rng.sample(range(len(shelf)), len(shelf))
            lots, at = [], 0
            while at < len(places) and rng.random() < 0.8:
                size = rng.randrange(1, 4)
                lots.append(places[at:at + size])
                at += size
            try:
                order = lots_order(shelf.reaches(), lots)
            except NotClosed as error:
                self.raised(NotClosed, [error.place], poured_lots, shelf, lots, marks)
                continue
            units = {min(lot): sorted(lot) for lot in lots}
            runs = []
            for spot, unit in enumerate(order):
                behind = [place for other in order[spot + 1:] for place in units.get(other, [other])]
                run = shelf.run_at(unit)
                if unit in units:
                    run = least_run(stack_of(shelf, units[unit]), marks, keys_of(shelf, behind))
                    done += 1
                runs.append(run)
            told = poured_lots(shelf, lots, marks)
            self.assertEqual(told, Shelf(shelf.kind, runs))
            self.assertEqual(told_reads(told, marks), told_reads(shelf, marks))
        self.assertGreater(done, 100)

    def test_no_lots(self):
        for shelf, _, marks in samples(971, 3):
            self.assertEqual((poured_lots(shelf, [], marks), poured_lots(shelf, (), ())), (shelf, shelf))

    def test_one_lot(self):
        for shelf, lot, marks in samples(972, 10):
            if way_back(shelf.reaches(), lot) is None:
                told = poured_lots(shelf, [lot], marks)
                self.assertEqual(told_reads(told, marks), told_reads(poured(shelf, lot, marks), marks))
                self.assertEqual(len(told), len(shelf) - len(set(lot)) + 1)


class NeighboursTest(unittest.TestCase):
    def test_point_98(self):
        rng = seeded(98)
        found = {True: 0, False: 0}
        for shelf, _, marks in samples(980, 25):
            first = rng.randrange(len(shelf))
            lot = list(range(first, rng.randrange(first, len(shelf)) + 1))
            stack = stack_of(shelf, lot)
            under = keys_of(shelf, range(lot[-1] + 1, len(shelf)))
            run = self.other_run(rng, least_run(stack, marks, under))
            told = parting_beneath(stack, [run], marks, under)
            found[told is None] += 1
            if told is None:
                for _ in range(2):
                    other = refilled(rng, shelf, lot)
                    replaced = Shelf(shelf.kind, other.runs()[:first] + [run] + other.runs()[lot[-1] + 1:])
                    self.assertEqual(told_reads(replaced, marks), told_reads(other, marks))
            else:
                self.parted(shelf, lot, run, told)
        self.assertGreater(min(found.values()), 30)

    def other_run(self, rng, run):
        """Returns the run, or one with one entry row changed."""
        pieces = run.pieces()
        if not pieces or rng.random() < 0.4:
            return run
        place = rng.randrange(len(pieces))
        pieces[place] = (*pieces[place][:2], random_entries(rng, run))
        return Run(run.kind, run.begin, run.end, run.reach(), pieces)

    def parted(self, shelf, lot, run, told):
        """The reads differ if the newest place behind puts the state at the key, and the others have no entries."""
        key, cut, state = told
        runs = []
        behind = [place for place in range(lot[-1] + 1, len(shelf)) if shelf.reaches()[place].at(key)]
        for place, other in enumerate(shelf):
            pieces = []
            if behind and place == behind[0] and state != ():
                pieces = [(key, key + 1, ((other.end, True, state),))]
            runs.append(other if place in lot else Run(other.kind, other.begin, other.end, other.reach(), pieces))
        reads = []
        for row in (runs[lot[0]:lot[-1] + 1], [run]):
            one = Shelf(shelf.kind, runs[:lot[0]] + row + runs[lot[-1] + 1:])
            reads.append((one.read(key, cut), makes(shelf.kind, slow_up_to(row[::-1], key, cut), state)))
        self.assertEqual([read for read, _ in reads], [made for _, made in reads])
        self.assertNotEqual(reads[0][0], reads[1][0])


class LastRunTest(unittest.TestCase):
    def test_point_102(self):
        rng = seeded(102)
        poured_often = 0
        for shelf, _, marks in samples(1020, 12):
            more = marks + random_marks(rng, top_of(shelf), 2)
            left = shelf
            while len(left) > 1:
                lot = rng.sample(range(len(left)), rng.randrange(2, len(left) + 1))
                if way_back(left.reaches(), lot) is None:
                    left = poured(left, lot, more)
                    poured_often += 1
            least = least_run([left.run_at(0)], marks, NO_KEYS)
            begin, end = stack_window(shelf.runs())
            for key in CELL_KEYS:
                row, before = [], ()
                for cut in slow_cuts(begin, end, marks, key):
                    now = shelf.read(key, cut)
                    taken = step(shelf.kind, (True, before), (True, now))
                    if taken != (False, ()):
                        row.append((cut, *taken))
                    before = now
                self.assertEqual(least.entries_at(key), tuple(row))
        self.assertGreater(poured_often, 100)

    def test_point_102_normal_forms(self):
        for kind in KINDS:
            part = normal_form(kind, (False, plain(kind, (1,))))
            shelf = Shelf(kind, [one_run(kind, 1, 2, ((2, *part),)), one_run(kind, 0, 1, ((1, True, plain(kind, (2,))),))])
            told = poured(shelf, [0, 1], [(1, 0, 1)]).run_at(0)
            self.assertEqual(told.entries_at(0)[0], (1, True, plain(kind, (2,))))
            self.assertEqual(len(told.entries_at(0)), 1 if kind == "first" else 2)


if __name__ == "__main__":
    unittest.main()
