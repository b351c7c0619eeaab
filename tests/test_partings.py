"""Points 93, 94, 98 and 101: pairs that pour orders turn, and shelves that show it."""

import itertools
import unittest

from leastshelf.errors import BadKey, BadKind, BadMark, BadRun, NoPlace, NotClosed, OtherWindow
from leastshelf.leastruns import least_run
from leastshelf.noticed import parting_beneath
from leastshelf.orders import pour_order, way_back
from leastshelf.overlays import key_set
from leastshelf.partings import pair_shelf, parted_outcome, refilled, turned_pair
from leastshelf.rows import stack_reach, stack_window
from leastshelf.runs import Run
from leastshelf.shelves import Shelf
from samples import KINDS, ODD_VALUES, TOP, Raising, any_effects, normal_form, plain, seeded
from stacks import ALL_KEYS, CELL_KEYS, NO_KEYS, one_run, random_effect, random_run, slow_cuts, slow_told
from test_cuts import BAD_MARK_ROWS, BAD_MARKS
from test_orders import BAD_LOTS, BAD_PLACES, over, turned
from test_orders import samples as reach_samples
from test_pours import samples as shelf_samples
from test_pours import keys_of, told_reads
from test_rows import BAD_KEYS

BAD_EFFECTS = ODD_VALUES + ((), (True,), (True, (), ()), (1, ()), (0, (1,)), (None, ()), ((), True), (True, 1), (True, [1]),
                            (True, None), (False, (-1,)), (False, (True,)), [True, ()], (True, ("1",)))
THREE = [key_set([(0, 10)]), key_set([(5, 15)]), key_set([(10, 20)])]


def given(rng, row):
    """Returns the row as a list or as a tuple."""
    return rng.choice((list(row), tuple(row)))


def outside_of(lot, many):
    """Returns the outside places of a lot."""
    return [place for place in range(many) if place not in lot]


class TurnedPairTest(Raising, unittest.TestCase):
    def test_point_94(self):
        rng = seeded(94)
        met = {0: 0, 1: 0, 2: 0}
        for reaches, lot in reach_samples(194, 120, 5):
            orders = list(itertools.permutations(outside_of(lot, len(reaches)) + [None]))
            for order in rng.sample(orders, min(12, len(orders))):
                pairs = turned(reaches, set(lot), order)
                said = (*pairs[0], over(reaches, *pairs[0])) if pairs else None
                self.assertEqual(turned_pair(reaches, lot, given(rng, order)), said)
                met[min(2, len(pairs))] += 1
        self.assertGreater(min(met.values()), 40)

    def test_point_94_a_pour_order_turns_none(self):
        closed = 0
        for reaches, lot in reach_samples(195, 150):
            if way_back(reaches, lot) is None:
                self.assertIsNone(turned_pair(reaches, lot, pour_order(reaches, lot)))
                closed += 1
            else:
                for order in itertools.permutations(outside_of(lot, len(reaches)) + [None]):
                    self.assertIsNotNone(turned_pair(reaches, lot, order))
        self.assertGreater(closed, 40)

    def test_the_least_pair_and_key(self):
        self.assertEqual(turned_pair(THREE, [0, 2], [None, 1]), (1, 2, 10))
        self.assertEqual(turned_pair(THREE, [2, 0, 2], (1, None)), (0, 1, 5))
        wide = [ALL_KEYS] * 4
        self.assertEqual(turned_pair(wide, [3], [2, 1, 0, None]), (0, 1, 0))
        self.assertEqual(turned_pair(wide, [0, 3], [2, 1, None]), (0, 1, 0))
        self.assertEqual(turned_pair(wide, [1, 3], [0, 2, None]), (1, 2, 0))
        self.assertEqual(turned_pair(wide, [3], [None, 0, 1, 2]), (0, 3, 0))
        self.assertEqual(turned_pair(wide, [0, 1, 2, 3], [None]), None)
        self.assertEqual(turned_pair([key_set([(7, 9)]), NO_KEYS, key_set([(0, 1), (8, TOP)])], [0], [2, None, 1]), (0, 2, 8))
        # places of the lot are no pair, whatever the order is
        self.assertIsNone(turned_pair([ALL_KEYS, NO_KEYS, ALL_KEYS], [0, 2], [None, 1]))

    def test_bad_lots(self):
        for lot in BAD_LOTS:
            self.raised(NoPlace, [None], turned_pair, THREE, lot, [None])
        for place in BAD_PLACES:
            self.raised(NoPlace, [place], turned_pair, THREE, [0, place, None], [None, 1])
        self.raised(NoPlace, [0], turned_pair, [], [0], [None])

    def test_example(self):
        self.assertEqual(turned_pair(THREE, [0, 2], [None, 1]), (1, 2, 10))

    def test_arguments_stay(self):
        reaches, lot, order = list(THREE), [2, 0], [None, 1]
        turned_pair(reaches, lot, order)
        self.assertEqual((reaches, lot, order), (THREE, [2, 0], [None, 1]))


class PairShelfTest(Raising, unittest.TestCase):
    def test_shelves(self):
        for kind in KINDS:
            for puts in (True, False):
                for i, j, key in ((0, 1, 5), (1, 0, 9), (1, 2, 14), (2, 1, 10)):
                    shelf = pair_shelf(kind, row_by_turns(THREE, i), i, j, key, puts=puts)
                    runs = []
                    for place, reach in enumerate(THREE):
                        effect = normal_form(kind, (puts, plain(kind, (1 if place == i else 2,))))
                        pieces = [(key, key + 1, ((3 - place, *effect),))] if place in (i, j) else []
                        runs.append(Run(kind, 2 - place, 3 - place, reach, pieces))
                    self.assertEqual(shelf, Shelf(kind, runs))
                    self.assertEqual((shelf.kind, shelf.order_fault(throughout=True)), (kind, None))
            self.assertEqual(pair_shelf(kind, THREE, 0, 1, 5), pair_shelf(kind, THREE, 0, 1, 5, puts=True))
            self.assertRaises(TypeError, pair_shelf, kind, THREE, 0, 1, 5, True)
        self.assertEqual(pair_shelf("ends", THREE, 0, 1, 5, puts=False).run_at(0).entries_at(5), ((3, False, (1, 1)),))
        self.assertEqual(pair_shelf("last", THREE, 0, 1, 5, puts=False).run_at(1).entries_at(5), ((2, True, (2,)),))

    def test_point_94_turned_pairs_change_reads(self):
        rng = seeded(940)
        found = 0
        for reaches, lot in reach_samples(196, 80, 5):
            orders = list(itertools.permutations(outside_of(lot, len(reaches)) + [None]))
            for order in rng.sample(orders, min(4, len(orders))):
                told = turned_pair(reaches, lot, order)
                if told is not None:
                    kind = rng.choice(KINDS)
                    shelf = pair_shelf(kind, reaches, *told)
                    self.assertEqual(shelf.read(told[2]), plain(kind, (1,)))
                    self.assertEqual(put_in_order(shelf, lot, order).read(told[2]), plain(kind, (2,)))
                    found += 1
        self.assertGreater(found, 60)

    def test_point_94_orders_that_turn_no_pair_keep_all_reads(self):
        rng = seeded(941)
        kept = 0
        for shelf, lot, _ in shelf_samples(942, 12):
            orders = list(itertools.permutations(outside_of(lot, len(shelf)) + [None]))
            for order in rng.sample(orders, min(6, len(orders))):
                if turned_pair(shelf.reaches(), lot, order) is None:
                    self.assertEqual(put_in_order(shelf, lot, order).reads(), shelf.reads())
                    kept += 1
        self.assertGreater(kept, 60)

    def test_point_101_parts_alone(self):
        rng = seeded(101)
        for kind in KINDS:
            for _ in range(12):
                runs = [random_run(rng, kind, number, number + 2, 3, 0.5, 0) for number in (4, 2, 0)]
                parts = [only_parts(run) for run in runs]
                shelf = Shelf(kind, parts)
                for order in itertools.permutations(range(3)):
                    other = Shelf(kind, [parts[place] for place in order])
                    turns = [(i, j) for i, j in itertools.combinations(range(3), 2) if order.index(j) < order.index(i)
                             and common_keys(shelf.reaches(), i, j)]
                    if kind in ("bag", "set") or not turns:
                        self.assertEqual((other.reads(), other.reads(3)), (shelf.reads(), shelf.reads(3)))
                    else:
                        i, j = turns[0]
                        key = common_keys(shelf.reaches(), i, j)[0]
                        pair = pair_shelf(kind, shelf.reaches(), i, j, key, puts=False)
                        turned_shelf = Shelf(kind, [pair.run_at(place) for place in order])
                        self.assertNotEqual(pair.read(key), turned_shelf.read(key))

    def test_errors_in_their_order(self):
        self.bad_kinds(BadKind, pair_shelf, THREE, None, None, None)
        for place in BAD_PLACES:
            self.raised(NoPlace, [place], pair_shelf, "set", THREE, place, "x", None)
            self.raised(NoPlace, [place], pair_shelf, "set", THREE, 1, place, None)
        for key in BAD_KEYS + (4, 10, 11, 15, 999):
            self.raised(BadKey, [key], pair_shelf, "set", THREE, 0, 1, key)
            self.raised(BadKey, [key], pair_shelf, "set", THREE, 1, 0, key)

    def test_arguments_stay(self):
        reaches = list(THREE)
        pair_shelf("list", reaches, 0, 1, 5).reaches().clear()
        self.assertEqual(reaches, THREE)


def common_keys(reaches, i, j):
    """Returns the sample keys that two places have."""
    return [key for key in CELL_KEYS if reaches[i].at(key) and reaches[j].at(key)]


def row_by_turns(row, number):
    """Returns the row as a list or as a tuple, by turns."""
    return list(row) if number % 2 else tuple(row)


def put_in_order(shelf, lot, order):
    """Returns the shelf in a pour order, with the whole effects of the stack as those of the outcome."""
    stack = [shelf.run_at(place) for place in sorted(set(lot), reverse=True)]
    begin, end = stack_window(stack)
    outcome = Run(shelf.kind, begin, end, stack_reach(stack), least_run(stack, [], stack_reach(stack)).pieces())
    return Shelf(shelf.kind, [outcome if place is None else shelf.run_at(place) for place in order])


def only_parts(run):
    """Returns the run without its entries that clear, other than those that are parts in normal form."""
    pieces = []
    for a, b, row in run.pieces():
        pieces.append((a, b, tuple(entry for entry in row if not entry[1] or (run.kind == "last" and entry[2]))))
    return Run(run.kind, run.begin, run.end, run.reach(), pieces)


class RefilledTest(Raising, unittest.TestCase):
    def test_entries(self):
        rng = seeded(98)
        for shelf, lot, _ in shelf_samples(980, 10):
            key = rng.choice(CELL_KEYS)
            held = [place for place in outside_of(lot, len(shelf)) if shelf.reaches()[place].at(key)]
            effects = [(place, random_effect(rng, shelf.kind)) for place in rng.sample(held, rng.randrange(len(held) + 1))]
            idle = [place for place in outside_of(lot, len(shelf)) if place not in dict(effects)]
            effects += [(place, (False, ())) for place in idle if rng.random() < 0.4]
            told = refilled(shelf, lot, key, given(rng, effects))
            self.assertEqual((told.kind, len(told)), (shelf.kind, len(shelf)))
            for place, run in enumerate(shelf):
                said = run
                if place not in lot:
                    effect = dict(effects).get(place, (False, ()))
                    pieces = [] if effect == (False, ()) else [(key, key + 1, ((run.end, *effect),))]
                    said = Run(run.kind, run.begin, run.end, run.reach(), pieces)
                self.assertEqual(told.run_at(place), said)

    def test_effects_that_are_not_in_normal_form(self):
        shelf = Shelf("last", [one_run("last", 3, 5, ((4, True, (9,)),)), one_run("last", 0, 1, ())])
        self.assertEqual(refilled(shelf, [1], 0, [(0, (False, (4,)))]).run_at(0), one_run("last", 3, 5, ((5, True, (4,)),)))
        self.assertEqual(refilled(shelf, [0], 0, [(1, (False, ()))]), shelf)
        self.assertEqual(refilled(shelf, [1], 0, []).run_at(0), one_run("last", 3, 5, ()))
        self.assertEqual(refilled(shelf, [1, 0, 1], 0, ()), shelf)

    def test_each_effect(self):
        for kind in KINDS:
            shelf = Shelf(kind, [one_run(kind, 0, 1, ()), one_run(kind, 7, 9, ())])
            for effect in any_effects(kind, (0, 1), 2):
                told = refilled(shelf, [0], 0, [(1, effect)]).run_at(1).entries_at(0)
                self.assertEqual(told, () if effect == (False, ()) else ((9, *normal_form(kind, effect)),))

    def test_errors_in_their_order(self):
        shelf = Shelf("set", [Run("set", place, place + 1, reach, []) for place, reach in enumerate(THREE)])
        for lot in BAD_LOTS:
            self.raised(NoPlace, [None], refilled, shelf, lot, None, [(None, None)])
        for place in BAD_PLACES:
            self.raised(NoPlace, [place], refilled, shelf, [0, place, None], None, [(None, None)])
            self.raised(NoPlace, [place], refilled, shelf, [0], 5, [(1, None), (place, (True, ())), (0, None)])
        for key in BAD_KEYS:
            self.raised(BadKey, [key], refilled, shelf, [0], key, [(None, None)])
        for place in (0, 2):
            self.raised(NoPlace, [place], refilled, shelf, [0, 2], 5, [(1, None), (place, (True, ())), (7, None)])
        for effect in BAD_EFFECTS + ((True, (2, 1)), (False, (1, 1))):
            self.raised(BadRun, [0], refilled, shelf, [0], 12, [(2, effect)])
            self.raised(BadRun, [0], refilled, shelf, [0], 12, [(1, (True, ())), (2, effect)])
        self.raised(BadRun, [0], refilled, shelf, [0], 4, [(1, (True, ()))])
        self.raised(BadRun, [0], refilled, shelf, [2, 0], 15, [(1, (False, (1,)))])
        self.assertEqual(refilled(shelf, [0], 4, [(1, (False, ())), (2, (False, ()))]), shelf)

    def test_arguments_stay(self):
        shelf = Shelf("set", [one_run("set", 1, 2, ((2, True, (1,)),)), one_run("set", 0, 1, ((1, True, (1,)),))])
        lot, effects, runs = [0, 0], [(1, (True, ()))], shelf.runs()
        refilled(shelf, lot, 0, effects).runs().clear()
        self.assertEqual((lot, effects, shelf.runs()), ([0, 0], [(1, (True, ()))], runs))


class PartedOutcomeTest(Raising, unittest.TestCase):
    def neighbours(self, number, many):
        """Yields shelves with neighbours, marks, a run in their place, and the keys that the places behind them have."""
        rng = seeded(number)
        for shelf, _, marks in shelf_samples(number, many, True, 0.6):
            first = rng.randrange(len(shelf))
            lot = list(range(first, rng.randrange(first, len(shelf)) + 1))
            stack = [shelf.run_at(place) for place in reversed(lot)]
            under = keys_of(shelf, range(lot[-1] + 1, len(shelf)))
            run = least_run(stack, marks, under)
            if rng.random() < 0.6 and run.pieces():
                pieces = run.pieces()
                place = rng.randrange(len(pieces))
                number = rng.randrange(run.begin, run.end) + 1
                pieces[place] = (*pieces[place][:2], rng.choice(((), ((number, *random_effect(rng, shelf.kind)),))))
                run = Run(run.kind, run.begin, run.end, run.reach(), pieces)
            rng.shuffle(lot)
            yield shelf, given(rng, lot), marks, run, under

    def test_point_98(self):
        found = {"alike": 0, "now": 0, "cut": 0, "put": 0, "nothing": 0, "one": 0, "all": 0}
        for shelf, lot, marks, run, under in self.neighbours(981, 80):
            stack = [shelf.run_at(place) for place in sorted(lot, reverse=True)]
            told = parting_beneath(stack, [run], marks, under)
            got = parted_outcome(shelf, lot, run, marks)
            found["one"] += len(set(lot)) == 1
            found["all"] += len(set(lot)) == len(shelf)
            if told is None:
                self.assertIsNone(got)
                found["alike"] += 1
                continue
            key, cut, state = told
            behind = [place for place in range(max(lot) + 1, len(shelf)) if shelf.reaches()[place].at(key)]
            self.assertEqual(got, (key, cut, [] if state == () else [(behind[0], (True, state))]))
            found["now" if cut == run.end else "cut"] += 1
            found["put" if state else "nothing"] += 1
            other = refilled(shelf, lot, key, got[2])
            replaced = Shelf(shelf.kind, other.runs()[:min(lot)] + [run] + other.runs()[max(lot) + 1:])
            self.assertNotEqual(other.read(key, cut), replaced.read(key, cut))
        self.assertGreater(min(found.values()), 3, found)

    def test_no_earlier_key_or_cut_parts(self):
        for shelf, lot, marks, run, under in self.neighbours(982, 12):
            stack = [shelf.run_at(place) for place in sorted(lot, reverse=True)]
            unequal = []
            for key in CELL_KEYS:
                cuts = slow_cuts(*stack_window(stack), marks, key)
                rows = [slow_told(one, marks, under, key) for one in (stack, [run])]
                unequal += [(key, cut) for at, cut in enumerate(cuts) if rows[0][at] != rows[1][at]]
            got = parted_outcome(shelf, lot, run, marks)
            self.assertEqual(None if got is None else got[:2], unequal[0] if unequal else None)

    def test_alike_runs_keep_all_reads(self):
        rng = seeded(983)
        for shelf, lot, marks, run, _ in self.neighbours(983, 12):
            if parted_outcome(shelf, lot, run, marks) is None:
                for key in CELL_KEYS:
                    held = [place for place in outside_of(lot, len(shelf)) if shelf.reaches()[place].at(key)]
                    other = refilled(shelf, lot, key, [(place, random_effect(rng, shelf.kind)) for place in held])
                    replaced = Shelf(shelf.kind, other.runs()[:min(lot)] + [run] + other.runs()[max(lot) + 1:])
                    self.assertEqual(told_reads(replaced, marks), told_reads(other, marks))

    def test_the_state_of_what_lies_beneath(self):
        for kind in ("list", "bag", "ends", "heads", "tails", "set"):
            part = (False, plain(kind, (1,)))
            put, add = one_run(kind, 4, 5, ((5, True, part[1]),)), one_run(kind, 4, 5, ((5, *part),))
            empty = one_run(kind, 2, 3, ())
            far = Run(kind, 3, 4, key_set([(5, 6)]), [])
            shelf = Shelf(kind, [one_run(kind, 6, 7, ()), put, far, empty, one_run(kind, 0, 1, ())])
            self.assertEqual(parted_outcome(shelf, [1], add, []), (0, 5, [(3, (True, plain(kind, (0,))))]))
            self.assertEqual(parted_outcome(shelf, [1], one_run(kind, 4, 5, ()), []), (0, 5, []))
            self.assertIsNone(parted_outcome(Shelf(kind, [put]), [0], add, []))

    def test_errors_in_their_order(self):
        runs = [one_run("set", number, number + 1, ((number + 1, True, (1,)),)) for number in (4, 3, 2, 1, 0)]
        shelf, other = Shelf("set", runs), one_run("list", 3, 4, ())
        for lot in BAD_LOTS:
            self.raised(NoPlace, [None], parted_outcome, shelf, lot, None, None)
        for place in ODD_VALUES + (5, "0"):
            self.raised(NoPlace, [place], parted_outcome, shelf, [0, place, None, 3], None, None)
        for lot, place in (([0, 2], 1), ([4, 0], 1), ([0, 1, 4, 3], 2), ((3, 1, 3), 2)):
            self.raised(NotClosed, [place], parted_outcome, shelf, lot, None, None)
        for thing in ODD_VALUES + ([runs[1]], shelf):
            self.raised(BadRun, [0], parted_outcome, shelf, [1], thing, None)
        for thing in (other, runs[0], one_run("set", 2, 4, ()), one_run("set", 3, 5, ())):
            self.raised(OtherWindow, None, parted_outcome, shelf, [1], thing, None)
        for thing in BAD_MARK_ROWS:
            self.raised(BadMark, [0], parted_outcome, shelf, [1], runs[1], thing)
        for thing in BAD_MARKS:
            self.raised(BadMark, [1], parted_outcome, shelf, [1], runs[1], [(1, 0, 2), thing])

    def test_results_are_new(self):
        put, stone = one_run("set", 1, 2, ((2, False, (1,)),)), one_run("set", 1, 2, ((2, True, (1,)),))
        shelf = Shelf("set", [put, one_run("set", 0, 1, ())])
        lot, marks = [0], [(1, 0, 2)]
        told = parted_outcome(shelf, lot, stone, marks)
        self.assertEqual(told, (0, 2, [(1, (True, (0,)))]))
        told[2].clear()
        self.assertEqual((parted_outcome(shelf, lot, stone, marks)[2], lot, marks), ([(1, (True, (0,)))], [0], [(1, 0, 2)]))


if __name__ == "__main__":
    unittest.main()
