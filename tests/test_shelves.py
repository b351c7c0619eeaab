"""Points 91 to 93: shelves and their reads."""

import unittest

from leastshelf.errors import BadKey, BadKind, BadRun, NoPlace
from leastshelf.fields import Field
from leastshelf.overlays import key_set
from leastshelf.runs import Run
from leastshelf.shelves import Shelf
from samples import KINDS, ODD_VALUES, TOP, Raising, plain, seeded
from stacks import ALL_KEYS, CELL_KEYS, NO_KEYS, one_run, random_run, random_stack, slow_up_to
from test_rows import BAD_KEYS


def random_shelf(rng, kind, many=4, ordered=True, letters=3, reach=0.7):
    """Returns a shelf with at least one run."""
    return Shelf(kind, random_stack(rng, kind, many, ordered, letters, reach)[::-1])


def slow_read(shelf, key, number=10 ** 9):
    """Returns the read of a shelf at a key up to a number, as point 91 says it."""
    runs = shelf.runs()[::-1]
    return slow_up_to(runs, key, number)[1] if runs else ()


def window_shelf(rows):
    """Returns a shelf of runs without entries for rows of a begin, an end and stretches."""
    return Shelf("set", [Run("set", begin, end, key_set(stretches), []) for begin, end, stretches in rows])


class ShelfTest(Raising, unittest.TestCase):
    def test_parts(self):
        rng = seeded(91)
        for kind in KINDS:
            for _ in range(8):
                runs = random_stack(rng, kind, 5)
                shelf = Shelf(kind, runs)
                self.assertEqual((shelf.kind, len(shelf), shelf.runs(), list(shelf)), (kind, len(runs), runs, runs))
                self.assertEqual(shelf.reaches(), [run.reach() for run in runs])
                for place, run in enumerate(runs):
                    self.assertEqual(shelf.run_at(place), run)
                self.assertEqual([run.begin for run in shelf], [run.begin for run in runs])
                self.assertEqual(Shelf(kind, tuple(runs)), shelf)

    def test_no_runs(self):
        for kind in KINDS:
            for shelf in (Shelf(kind, []), Shelf(kind, ())):
                self.assertEqual((len(shelf), shelf.runs(), shelf.reaches(), list(shelf)), (0, [], [], []))
                self.assertEqual((shelf.read(5), shelf.read(5, 3), shelf.reads(), shelf.reads(7)), ((), (), Field(()), Field(())))
                self.assertEqual((shelf.order_fault(), shelf.order_fault(throughout=True)), (None, None))
                self.raised(NoPlace, [0], shelf.run_at, 0)
                for key in BAD_KEYS:
                    self.raised(BadKey, [key], shelf.read, key)

    def test_point_91_reads(self):
        rng = seeded(910)
        for kind in KINDS:
            for _ in range(20):
                shelf = random_shelf(rng, kind, 4, rng.random() < 0.5)
                top = max(run.end for run in shelf)
                for number in range(-1, top + 2):
                    store = shelf.reads(number)
                    self.assertEqual(store.neutral, ())
                    for key in CELL_KEYS:
                        said = slow_read(shelf, key, number)
                        self.assertEqual((shelf.read(key, number), shelf.read(key, number=number), store.at(key)), (said,) * 3)
                store = shelf.reads()
                self.assertEqual((shelf.reads(None), shelf.reads(number=None)), (store, store))
                for key in CELL_KEYS:
                    said = slow_read(shelf, key)
                    self.assertEqual((shelf.read(key), shelf.read(key, None), store.at(key)), (said,) * 3)

    def test_the_newest_run_comes_last(self):
        for kind in ("list", "heads"):
            old, new = one_run(kind, 0, 1, ((1, False, (1,)),)), one_run(kind, 5, 9, ((7, False, (2,)),))
            self.assertEqual(Shelf(kind, [new, old]).read(0), (1, 2))
            self.assertEqual(Shelf(kind, [old, new]).read(0), (2, 1))
            self.assertEqual([Shelf(kind, [new, old]).read(0, number) for number in (0, 1, 6, 7)], [(), (1,), (1,), (1, 2)])

    def test_runs_without_keys(self):
        for kind in KINDS:
            shelf = Shelf(kind, [Run(kind, 1, 2, NO_KEYS, []), one_run(kind, 0, 1, ((1, True, ()),)), Run(kind, 0, 9, ALL_KEYS, [])])
            self.assertEqual((len(shelf), shelf.read(0), shelf.read(TOP - 1)), (3, (), ()))
            self.assertEqual((shelf.reads(), shelf.reaches()), (Field(()), [NO_KEYS, key_set([(0, 1)]), ALL_KEYS]))

    def test_bad_runs(self):
        self.bad_kinds(BadKind, Shelf, [None])
        put, other = one_run("set", 0, 1, ((1, True, (1,)),)), one_run("list", 0, 1, ((1, True, (1,)),))
        for thing in ODD_VALUES + (other, [put], put.contents(), put.pieces()):
            self.raised(BadRun, [0], Shelf, "set", [thing, put])
            self.raised(BadRun, [2], Shelf, "set", (put, put, thing, None))
            self.raised(BadRun, [0], Shelf("set", [put]).added, thing)
            self.raised(BadRun, [0], Shelf("set", []).added, thing)
        self.raised(BadRun, [0], Shelf, "list", [put, other])

    def test_bad_places_and_keys(self):
        put = one_run("set", 0, 1, ((1, True, (1,)),))
        shelf = Shelf("set", [put, put])
        for place in ODD_VALUES + (2, -2, "0", (0,), [0]):
            self.raised(NoPlace, [place], shelf.run_at, place)
        for key in BAD_KEYS:
            self.raised(BadKey, [key], shelf.read, key)
            self.raised(BadKey, [key], shelf.read, key, 1)

    def test_added(self):
        rng = seeded(911)
        for kind in KINDS:
            shelf, run = random_shelf(rng, kind), random_run(rng, kind, 20, 22)
            before = shelf.runs()
            told = shelf.added(run)
            self.assertIsInstance(told, Shelf)
            self.assertEqual((told.kind, told.runs(), shelf.runs()), (kind, [run] + before, before))
            self.assertEqual(Shelf(kind, []).added(run), Shelf(kind, [run]))

    def test_equality(self):
        one, two = one_run("set", 0, 1, ((1, True, (1,)),)), one_run("set", 0, 1, ((1, True, (2,)),))
        shelf = Shelf("set", [one, two])
        self.assertTrue(shelf == Shelf("set", (one_run("set", 0, 1, ((1, True, (1,)),)), two)))
        self.assertTrue(Shelf("list", []) == Shelf("list", []))
        for other in (Shelf("set", [two, one]), Shelf("set", [one]), Shelf("set", [one, two, two]), Shelf("set", []), [one, two],
                      (one, two), one, *ODD_VALUES):
            self.assertIs(shelf == other, False)
            self.assertIs(shelf != other, True)
        self.assertIs(Shelf("list", []) == Shelf("set", []), False)

    def test_point_1_shelves_never_change(self):
        one, two = one_run("set", 0, 1, ((1, True, (1,)),)), one_run("set", 1, 2, ((2, True, (2,)),))
        runs = [two, one]
        shelf = Shelf("set", runs)
        runs.clear()
        shelf.runs().clear()
        shelf.reaches().clear()
        shelf.added(one)
        list(shelf).clear()
        self.assertEqual((len(shelf), shelf.runs(), shelf.read(0)), (2, [two, one], (2,)))


class OrderFaultTest(unittest.TestCase):
    def test_point_91_windows(self):
        rng = seeded(92)
        found = {None: 0, "one": 0, "other": 0}
        for _ in range(250):
            rows = []
            for _ in range(rng.randrange(5)):
                begin = rng.randrange(6)
                a = rng.randrange(6)
                rows.append((begin, begin + rng.randrange(1, 3), [(a, a + rng.randrange(1, 3))] if rng.random() < 0.9 else []))
            if rng.random() < 0.6:
                rows.sort(key=lambda row: -row[0])
            shelf = window_shelf(rows)
            pairs = [(i, j) for i in range(len(rows)) for j in range(i + 1, len(rows)) if rows[i][0] < rows[j][1]]
            meet = [(i, j) for i, j in pairs for a, b in rows[i][2] for c, d in rows[j][2] if max(a, c) < min(b, d)]
            self.assertEqual(shelf.order_fault(), meet[0] if meet else None)
            self.assertEqual(shelf.order_fault(throughout=False), shelf.order_fault())
            self.assertEqual(shelf.order_fault(throughout=True), pairs[0] if pairs else None)
            found[None if not pairs else "one" if meet else "other"] += 1
        self.assertGreater(min(found.values()), 10)

    def test_touching_windows(self):
        shelf = window_shelf([(4, 9, [(0, 5)]), (4, 5, [(5, 6)]), (0, 4, [(0, 9)])])
        self.assertEqual((shelf.order_fault(), shelf.order_fault(throughout=True)), (None, (0, 1)))
        shelf = window_shelf([(4, 9, [(0, 5)]), (0, 5, [(4, 6)])])
        self.assertEqual((shelf.order_fault(), shelf.order_fault(throughout=True)), ((0, 1), (0, 1)))
        shelf = window_shelf([(0, 1, [(0, 5)]), (1, 2, [(5, 6)]), (3, 4, [(0, 1)])])
        self.assertEqual((shelf.order_fault(), shelf.order_fault(throughout=True)), ((0, 2), (0, 1)))

    def test_entries_say_nothing(self):
        for kind in KINDS:
            word = plain(kind, (1,))
            new, old = Run(kind, 0, 2, ALL_KEYS, [(0, 1, ((1, True, word),))]), Run(kind, 1, 3, ALL_KEYS, [(1, 2, ((2, True, word),))])
            self.assertEqual(Shelf(kind, [new, old]).order_fault(), (0, 1))
            self.assertRaises(TypeError, Shelf(kind, []).order_fault, True)


if __name__ == "__main__":
    unittest.main()
