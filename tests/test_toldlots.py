"""Points 99 and 100: lots whose entries are told, poured between other runs, and runs that change places."""

import itertools
import unittest

from leastshelf.errors import BadMark, BadRun, NoPlace, NotClosed
from leastshelf.noticed import parting_beneath
from leastshelf.overlays import key_set
from leastshelf.partings import refilled
from leastshelf.rows import stack_reach, stack_window
from leastshelf.runs import Run
from leastshelf.shelves import Shelf
from leastshelf.swaps import change_places, swallowed
from leastshelf.toldlots import group_fault, group_outcome, group_poured, swapped_parting
from samples import KINDS, ODD_VALUES, TOP, Raising, effects, makes, plain, seeded
from stacks import (ALL_KEYS, CELL_KEYS, NO_KEYS, one_run, random_effect, random_keys, random_marks, random_run, slow_cuts,
                    slow_up_to, then_all)
from test_cuts import BAD_MARK_ROWS, BAD_MARKS
from test_orders import BAD_LOTS
from test_shelves import random_shelf

IDLE = (False, ())
MOST = 10 ** 9


def stands(reaches, i, j):
    """Returns True if two places have a sample key in common."""
    return any(reaches[i].at(key) and reaches[j].at(key) for key in CELL_KEYS)


def quiet(rng, kind, run):
    """Returns the run with single entries of few letters, that are often parts."""
    pieces = []
    for a, b, _ in run.pieces():
        row = ((rng.randrange(run.begin, run.end) + 1, *random_effect(rng, kind, 2, 0.25)),)
        pieces.append((a, b, rng.choice((row, ()))))
    return Run(kind, run.begin, run.end, run.reach(), pieces)


def samples(number, many=60, most=5):
    """Yields shelves with a lot and upper places."""
    rng = seeded(number)
    for kind in KINDS:
        for _ in range(many):
            shelf = random_shelf(rng, kind, most, True, 2, rng.choice((0.4, 0.7)))
            if rng.random() < 0.6:
                shelf = Shelf(kind, [quiet(rng, kind, run) for run in shelf])
            lot = [rng.randrange(len(shelf)) for _ in range(rng.randrange(1, 4))]
            outside = [place for place in range(len(shelf)) if place not in lot]
            high = [place for place in outside if rng.random() < 0.4]
            reaches = shelf.reaches()
            # all places that stand over an upper one are upper too
            for place in reversed(outside):
                if any(other > place and stands(reaches, place, other) for other in high) and place not in high:
                    high.append(place)
            rng.shuffle(high)
            yield shelf, rng.choice((lot, tuple(lot))), rng.choice((high, tuple(high)))


class KeyView:
    """What point 99 says of one key: the places that have it, x, and the effects of the runs of the lot."""

    def __init__(self, shelf, lot, upper, key):
        self.kind, self.lot = shelf.kind, sorted(set(lot))
        self.held = [place for place in range(len(shelf)) if shelf.reaches()[place].at(key)]
        self.uppers = [place for place in self.held if place in upper]
        self.lowers = [place for place in self.held if place not in upper and place not in lot]
        self.effects = {place: slow_up_to([shelf.run_at(place)], key, MOST) for place in self.lot}
        behind = [place for place in self.held if place in lot]
        self.x = self.lowers[0] if self.lowers and behind and behind[-1] > self.lowers[0] else None

    def outcome(self):
        """Returns the effect of the group outcome."""
        newer = [place for place in self.lot if self.x is None or place < self.x]
        return then_all(self.kind, [self.effects[place] for place in reversed(newer)])

    def keeps(self):
        """Returns True if the two conditions hold."""
        if self.uppers and any(self.effects[place] != IDLE for place in self.lot if place < max(self.uppers)):
            return False
        if self.x is None or self.outcome()[0]:
            return True
        word = self.outcome()[1]
        last = max(self.uppers + self.lowers)
        for place in self.lot:
            clears, small = self.effects[place]
            if self.x < place < last and (clears or not swallowed(self.kind, small, word)):
                return False
        oldest = [self.effects[place] for place in reversed(self.lot) if place > last]
        return swallowed(self.kind, then_all(self.kind, oldest)[1], word)

    def reads(self, effect, others):
        """Returns the reads before and behind, if the outcome has the effect and the outside places have others."""
        told = {**self.effects, **others}
        before = [told[place] for place in sorted(told, reverse=True)]
        lower = [others[place] for place in reversed(self.lowers) if place in others]
        upper = [others[place] for place in reversed(self.uppers) if place in others]
        rows = (before, lower + [effect] + upper)
        return [then_all(self.kind, row)[1] for row in rows]


class OutcomeTest(Raising, unittest.TestCase):
    def test_point_99_outcomes(self):
        found = {True: 0, False: 0}
        for shelf, lot, upper in samples(99, 20):
            run = group_outcome(shelf, lot, upper)
            stack = [shelf.run_at(place) for place in sorted(set(lot))]
            self.assertEqual((run.kind, (run.begin, run.end), run.reach()), (shelf.kind, stack_window(stack), stack_reach(stack)))
            for key in CELL_KEYS:
                view = KeyView(shelf, lot, upper, key)
                effect = view.outcome()
                self.assertEqual(run.entries_at(key), () if effect == IDLE else ((run.end, *effect),))
                found[view.x is None] += 1
        self.assertGreater(min(found.values()), 60)

    def test_point_99_shelves(self):
        for shelf, lot, upper in samples(991, 20):
            rest = [place for place in range(len(shelf)) if place not in lot]
            runs = [shelf.run_at(place) for place in rest if place in upper] + [group_outcome(shelf, lot, upper)]
            runs += [shelf.run_at(place) for place in rest if place not in upper]
            self.assertEqual(group_poured(shelf, lot, upper), Shelf(shelf.kind, runs))

    def test_no_upper_place_and_all_of_them(self):
        rng = seeded(992)
        for kind in KINDS:
            for _ in range(8):
                shelf = random_shelf(rng, kind, 4)
                lot = [rng.randrange(len(shelf))]
                rest = [place for place in range(len(shelf)) if place not in lot]
                runs = [shelf.run_at(place) for place in rest]
                self.assertEqual(group_poured(shelf, lot, []).runs()[1:], runs)
                told = group_poured(shelf, lot, rest)
                self.assertEqual(told.runs()[:-1], runs)
                stack = [shelf.run_at(lot[0])]
                for key in CELL_KEYS:
                    self.assertEqual(told.runs()[-1].up_to(key, MOST), slow_up_to(stack, key, MOST))

    def test_a_lot_of_all_places(self):
        rng = seeded(993)
        for kind in KINDS:
            shelf = random_shelf(rng, kind, 4)
            lot = list(range(len(shelf)))
            told = group_poured(shelf, lot, [])
            self.assertEqual((len(told), told.reads(), group_fault(shelf, lot, ())), (1, shelf.reads(), None))


class FaultTest(Raising, unittest.TestCase):
    def test_point_99(self):
        found = {True: 0, False: 0}
        for shelf, lot, upper in samples(994):
            wrong = [key for key in CELL_KEYS if not KeyView(shelf, lot, upper, key).keeps()]
            told = group_fault(shelf, lot, upper)
            self.assertEqual(told is None, not wrong)
            found[told is None] += 1
            if told is not None:
                key, effects_there = told
                self.assertEqual(key, wrong[0])
                self.shows(shelf, lot, upper, key, effects_there)
        self.assertGreater(min(found.values()), 100)

    def shows(self, shelf, lot, upper, key, effects_there):
        """The shelf refilled with these effects, and the same poured between, have unlike reads at the key."""
        self.assertIsInstance(effects_there, list)
        places = [place for place, _ in effects_there]
        self.assertEqual(places, sorted(set(places)))
        self.assertTrue(all(shelf.reaches()[place].at(key) and place not in lot for place in places))
        other = refilled(shelf, lot, key, effects_there)
        self.assertNotEqual(other.read(key), group_poured(other, lot, upper).read(key))

    def test_point_99_reads_are_kept_whatever_the_outside_runs_hold(self):
        rng = seeded(995)
        for shelf, lot, upper in samples(996, 25):
            if group_fault(shelf, lot, upper) is None:
                for key in CELL_KEYS:
                    held = [place for place in range(len(shelf)) if place not in lot and shelf.reaches()[place].at(key)]
                    pairs = [(place, random_effect(rng, shelf.kind, 2)) for place in held if rng.random() < 0.8]
                    other = refilled(shelf, lot, key, pairs)
                    self.assertEqual(group_poured(other, lot, upper).read(key), other.read(key))

    def test_point_99_against_a_search_of_effects(self):
        rng = seeded(997)
        kept = 0
        for kind in KINDS:
            choices = [effect for effect in effects(kind, (0, 1, 7), 1)]
            for _ in range(60):
                many = rng.randrange(2, 6)
                lot = rng.sample(range(many), rng.randrange(1, many))
                rest = [place for place in range(many) if place not in lot]
                upper = rest[:rng.randrange(len(rest) + 1)]
                rows = [rng.choice(((), ((many - place, *random_effect(rng, kind, 2, 0.2)),))) for place in range(many)]
                shelf = Shelf(kind, [one_run(kind, many - place - 1, many - place, row) for place, row in enumerate(rows)])
                view = KeyView(shelf, lot, upper, 0)
                differ = False
                for row in itertools.product(choices, repeat=len(rest)):
                    before, behind = view.reads(view.outcome(), dict(zip(rest, row)))
                    differ = differ or before != behind
                self.assertEqual(group_fault(shelf, lot, upper) is not None, differ)
                kept += not differ
        self.assertGreater(kept, 60)

    def test_point_99_no_other_outcome(self):
        rng = seeded(998)
        for kind in KINDS:
            choices = [effect for effect in effects(kind, (0, 1, 7), 1)]
            for _ in range(25):
                many = rng.randrange(2, 5)
                lot = rng.sample(range(many), rng.randrange(1, many))
                rest = [place for place in range(many) if place not in lot]
                rows = [rng.choice(((), ((many - place, *random_effect(rng, kind, 1, 0.2)),))) for place in range(many)]
                shelf = Shelf(kind, [one_run(kind, many - place - 1, many - place, row) for place, row in enumerate(rows)])
                view = KeyView(shelf, lot, [], 0)
                good = []
                for effect in effects(kind, (0, 1, 2), 1):
                    pairs = [view.reads(effect, dict(zip(rest, row))) for row in itertools.product(choices, repeat=len(rest))]
                    good += [effect] if all(before == behind for before, behind in pairs) else []
                if group_fault(shelf, lot, []) is not None:
                    self.assertEqual(good, [])
                elif view.x is not None and view.outcome() in effects(kind, (0, 1, 2), 1):
                    self.assertEqual(good, [view.outcome()])

    def one_key(self, kind, rows):
        """Returns a shelf of runs of one key for rows of effects, the newest first."""
        return Shelf(kind, [one_run(kind, len(rows) - place - 1, len(rows) - place, row and ((len(rows) - place, *row),))
                            for place, row in enumerate(rows)])

    def test_idle_runs_above_upper_places(self):
        for kind in KINDS:
            put, part = (True, plain(kind, (1,))), (True if kind == "last" else False, plain(kind, (1,)))
            for row, fault in ((put, True), (part, True), ((True, ()), True), ((), False)):
                shelf = self.one_key(kind, [row, (), put])
                told = group_fault(shelf, [0, 2], [1])
                self.assertEqual(told is not None, fault)
                if fault:
                    self.shows(shelf, [0, 2], [1], *told)
                self.assertEqual(group_fault(shelf, [2], [0, 1]), None)
                self.assertEqual(group_fault(shelf, [0], [1]) is not None, fault)

    def test_parts_that_are_swallowed(self):
        for kind in KINDS:
            word = plain(kind, (1, 2))
            for newer in ((False, word), (True, word)):
                newer = (True, word) if kind == "last" else newer
                for middle in ((False, plain(kind, (1,))), (False, plain(kind, (3,))), (True, plain(kind, (1,))), (True, ())):
                    middle = (True, middle[1]) if kind == "last" else middle
                    shelf = self.one_key(kind, [newer, (), middle, ()])
                    kept = newer[0] or (kind in ("set", "tails") and middle == (False, (1,)))
                    told = group_fault(shelf, [0, 2], [])
                    self.assertEqual(told is None, kept)
                    if told is not None:
                        self.shows(shelf, [0, 2], [], *told)
                    # nothing is beneath the oldest run of the lot, so what it clears does not count
                    shelf = self.one_key(kind, [newer, (), middle])
                    kept = newer[0] or (kind in ("set", "tails") and middle[1] in ((1,), ()))
                    kept = kept or middle == (True, ())
                    told = group_fault(shelf, [0, 2], [])
                    self.assertEqual(told is None, kept)
                    if told is not None:
                        self.shows(shelf, [0, 2], [], *told)

    def test_the_least_key(self):
        wide = [Run("list", place, place + 1, key_set([(0, 9)]), []) for place in (2, 1)]
        old = Run("list", 0, 1, key_set([(0, TOP)]), [(4, 6, ((1, True, (1,)),)), (7, TOP, ((1, False, (2,)),))])
        shelf = Shelf("list", [*wide, old])
        self.assertEqual(group_fault(shelf, [0, 2], [])[0], 4)
        self.assertEqual(group_fault(shelf, [2, 2], [0, 1]), None)
        self.assertEqual(group_fault(shelf, [1, 2], [0]), None)
        narrow = Shelf("list", [wide[0], wide[1].within(6, 8), old])
        self.assertEqual(group_fault(narrow, [0, 2], [])[0], 7)
        self.assertEqual(group_fault(Shelf("list", [wide[0], wide[1].within(0, 4), old]), [0, 2], []), None)

    def test_lower_places_above_the_lot_say_nothing(self):
        for kind in KINDS:
            put = (True, plain(kind, (1,)))
            shelf = self.one_key(kind, [(), put, put])
            self.assertIsNotNone(group_fault(shelf, [1, 2], []))
            self.assertIsNone(group_fault(shelf, [1, 2], [0]))
            far = Run(kind, 2, 3, key_set([(5, 6)]), [])
            self.assertIsNone(group_fault(Shelf(kind, [far, *shelf.runs()[1:]]), [1, 2], []))
            self.assertEqual(group_outcome(Shelf(kind, [far, *shelf.runs()[1:]]), [1, 2], []).entries_at(0), ((2, *put),))

    def test_errors_in_their_order(self):
        shelf = Shelf("set", [Run("set", 0, 1, reach, []) for reach in (ALL_KEYS, key_set([(0, 5)]), key_set([(3, 9)]), ALL_KEYS)])
        calls = (group_outcome, group_poured, group_fault)
        for call in calls:
            for lot in BAD_LOTS:
                self.raised(NoPlace, [None], call, shelf, lot, [None])
            for place in ODD_VALUES + (4, "0", (0,)):
                self.raised(NoPlace, [place], call, shelf, [0, place, None], [None])
                self.raised(NoPlace, [place], call, shelf, [0], [3, place, None])
            self.raised(NoPlace, [0], call, shelf, [0, 1], [3, 0, 1])
            self.raised(NoPlace, [1], call, shelf, [0, 1], (2, 1))
            for lot, upper, place in (([3], [1], 0), ([0], [3], 1), ([0], [2, 3], 1), ([1], [3, 0], 2), ((3, 3), (2,), 0),
                                      ([0], [3, 1], 2)):
                self.raised(NotClosed, [place], call, shelf, lot, upper)
        apart = Shelf("set", [Run("set", 0, 1, reach, []) for reach in (key_set([(0, 5)]), key_set([(5, 9)]), NO_KEYS, ALL_KEYS)])
        self.assertIsNone(group_fault(apart, [3], [1]))
        self.raised(NotClosed, [0], group_fault, apart, [2], [3])

    def test_example(self):
        old, new = Run.of_batches("list", 0, [[(0, 1, True, (4,))]]), Run.of_batches("list", 2, [[(0, 1, False, (5,))]])
        shelf = Shelf("list", [new, Run.of_batches("list", 1, [[(0, 1, True, (7,))]]), old])
        told = [shelf.read(0), shelf.read(0, 1), group_fault(shelf, [0, 2], [])[0], group_outcome(shelf, [0, 2], []).pieces()]
        self.assertEqual(told, [(7, 5), (4,), 0, [(0, 1, ((3, False, (5,)),))]])

    def test_point_1_results_are_new(self):
        shelf = self.one_key("list", [(False, (1,)), (), (True, (2,))])
        lot, upper, runs = [0, 2], [], shelf.runs()
        told = group_fault(shelf, lot, upper)
        said = list(told[1])
        told[1].clear()
        group_poured(shelf, lot, upper).runs().clear()
        self.assertEqual((group_fault(shelf, lot, upper)[1], lot, upper, shelf.runs()), (said, [0, 2], [], runs))


class SwappedTest(Raising, unittest.TestCase):
    def test_point_100(self):
        rng = seeded(100)
        alike = 0
        for kind in KINDS:
            for _ in range(40):
                one, other = random_run(rng, kind, 0, 2, 2, 0.4), random_run(rng, kind, rng.choice((0, 2)), 3, 2, 0.4)
                if rng.random() < 0.3:
                    other = one
                marks, under = random_marks(rng, 3), random_keys(rng)
                told = swapped_parting(one, other, marks, under)
                self.assertEqual(told, parting_beneath([one, other], [other, one], marks, under))
                fits = all(self.swap(kind, [one, other], key, cut, under.at(key))
                           for key in CELL_KEYS for cut in slow_cuts(*stack_window([one, other]), marks, key))
                self.assertEqual(told is None, fits)
                alike += told is None
                if told is not None:
                    key, cut, state = told
                    made = [makes(kind, slow_up_to(stack, key, cut), state) for stack in ([one, other], [other, one])]
                    self.assertNotEqual(made[0], made[1])
        self.assertGreater(alike, 50)

    def swap(self, kind, runs, key, cut, beneath):
        """Returns True if the effects of two runs change places, or make the same of () if nothing is beneath."""
        row = [slow_up_to([run], key, cut) for run in runs]
        if beneath:
            return change_places(kind, *row)
        return then_all(kind, row)[1] == then_all(kind, row[::-1])[1]

    def test_errors_in_their_order(self):
        put, other = one_run("set", 0, 1, ((1, True, (1,)),)), one_run("list", 0, 1, ((1, True, (1,)),))
        for thing in ODD_VALUES + ([put],):
            self.raised(BadRun, [0], swapped_parting, thing, None, None, NO_KEYS)
            self.raised(BadRun, [1], swapped_parting, put, thing, None, NO_KEYS)
        self.raised(BadRun, [1], swapped_parting, put, other, None, NO_KEYS)
        for thing in BAD_MARK_ROWS:
            self.raised(BadMark, [0], swapped_parting, put, put, thing, NO_KEYS)
        for thing in BAD_MARKS:
            self.raised(BadMark, [1], swapped_parting, put, put, [(1, 0, 2), thing], NO_KEYS)


if __name__ == "__main__":
    unittest.main()
