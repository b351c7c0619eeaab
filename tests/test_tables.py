"""Point 48: tables of states of any make."""

import inspect
import itertools
import unittest

from leastshelf import tables
from leastshelf.errors import BadStep, BadTable, NoPlace
from leastshelf.tables import check_table, reached, run_table, step_count
from samples import ODD_VALUES, Raising, seeded

A, B = ("done",), ("word", (1, 2))
TABLE = [[(A, 1), (B, 0)], [(A, 2), (A, 2)], ((B, 0), (B, 1)), [((), 3), (([1], {}), 0)]]


def random_table(rng, states, steps, answers=((), ("done",), ("x", 1))):
    """Returns a table."""
    return [[(rng.choice(answers), rng.randrange(states)) for _ in range(steps)] for _ in range(states)]


def slow_run(table, row, start=0):
    """Returns the answers along a row, and the state behind it."""
    out = []
    for number in row:
        out.append(table[start][number][0])
        start = table[start][number][1]
    return out, start


def rows_of(steps, longest):
    """Returns all rows of at most so many steps, in the order of point 46."""
    return [list(row) for many in range(longest + 1) for row in itertools.product(range(steps), repeat=many)]


def bad_tables(steps):
    """Returns tuples of a table that is none for so many steps, and the place that is told."""
    line = [(A, 0)] * steps
    out = [(thing, 0) for thing in ODD_VALUES + ([], (), "ab", 5, {0: line})]
    lines = [thing for thing in ODD_VALUES + ("ab", 5, [(A, 0)] * (steps + 1), ((A, 0),) * (steps - 1), {})]
    entries = list(ODD_VALUES) + [[A, 0], (A,), (A, 0, 0), (list(A), 0), ("done", 0), (None, 0), (A, 3), (A, -1), (A, True),
                                  (A, None), (A, "0"), (A, 0.0), (), (0, A), (A, (0,)), (A, 10 ** 30)]
    lines += [[*line[1:], entry] for entry in entries] + [(entry, *line[1:]) for entry in entries]
    for bad in lines:
        out.extend([([line, bad, bad], 1), ((line, line, bad), 2), ([bad, line, line], 0)])
    return out


class TablesTest(Raising, unittest.TestCase):
    def test_point_48_check_table(self):
        told = check_table(TABLE, 2)
        self.assertEqual(told, [list(line) for line in TABLE])
        self.assertIsInstance(told, list)
        self.assertTrue(all(isinstance(line, list) for line in told))
        self.assertEqual(check_table(tuple(tuple(line) for line in TABLE), 2), told)
        self.assertEqual(check_table([[]], 0), [[]])
        self.assertEqual(check_table([(), []], 0), [[], []])
        self.assertEqual(check_table([[((), 0)]], 1), [[((), 0)]])

    def test_point_48_wrong_number_of_steps(self):
        for steps in (0, 1, 3):
            self.raised(BadTable, [0], check_table, TABLE, steps)
        self.raised(BadTable, [1], check_table, [[(A, 0)], [], [(A, 0)]], 1)
        self.raised(BadTable, [0], check_table, [[]], 1)

    def test_bad_tables(self):
        for steps in (1, 2):
            for table, place in bad_tables(steps):
                self.raised(BadTable, [place], check_table, table, steps)

    def test_step_count(self):
        self.assertEqual([step_count(table) for table in (TABLE, [[]], [(), ()], (((A, 0),),))], [2, 0, 0, 1])
        for table, place in bad_tables(2):
            count = None if place else self.first_count(table)
            if count not in (None, 2):
                continue
            self.raised(BadTable, [place], step_count, table)
            self.raised(BadTable, [place], run_table, table, None, start=None)
            self.raised(BadTable, [place], lambda table=table: list(reached(table)))
        self.raised(BadTable, [1], step_count, [[(A, 0)], [(A, 0), (A, 1)]])
        self.raised(BadTable, [0], step_count, [[(A, 0), None], [(A, 0), (A, 1)]])
        self.raised(BadTable, [0], step_count, [5, [(A, 0)]])
        self.raised(BadTable, [0], step_count, [None])
        self.raised(BadTable, [0], step_count, ["ab", "ab"])

    def first_count(self, table):
        """Returns how many entries the first line of a table has, None if there is no such line."""
        if isinstance(table, (list, tuple)) and table and isinstance(table[0], (list, tuple)):
            return len(table[0])
        return None

    def test_run_table(self):
        rng = seeded(48)
        for _ in range(60):
            states, steps = rng.randrange(1, 6), rng.randrange(4)
            table = random_table(rng, states, steps)
            row = [rng.randrange(steps) for _ in range(rng.randrange(9))] if steps else []
            self.assertEqual(run_table(table, row), slow_run(table, row)[0])
            start = rng.randrange(states)
            self.assertEqual(run_table(table, tuple(row), start=start), slow_run(table, row, start)[0])
        self.assertEqual(run_table(TABLE, [0, 1, 0, 1]), [A, A, B, B])
        self.assertEqual(run_table(TABLE, [0, 1, 1], start=3), [(), ([1], {}), B])
        self.assertEqual(run_table(TABLE, [], start=2), [])

    def test_bad_rows_and_starts(self):
        for thing in ODD_VALUES + (4, "0", (0,), [0]):
            self.raised(NoPlace, [thing], run_table, TABLE, [None], start=thing)
        for thing in ODD_VALUES + (2, "0", (0,), [0]):
            for row in ([thing], [0, 1, thing, thing], (1, thing, 0)):
                place = [at for at, entry in enumerate(row) if entry is thing][0]
                self.raised(BadStep, [place], run_table, TABLE, row)
        self.raised(BadStep, [0], run_table, [[]], [0])

    def test_reached(self):
        rng = seeded(148)
        for _ in range(60):
            states, steps = rng.randrange(1, 5), rng.randrange(4)
            table = random_table(rng, states, steps)
            first = {}
            for row in rows_of(steps, 4):
                first.setdefault(slow_run(table, row)[1], row)
            told = list(reached(table))
            self.assertEqual(told, sorted(((state, row) for state, row in first.items()), key=lambda one: (len(one[1]), one[1])))
            self.assertTrue(all(isinstance(one, tuple) and isinstance(one[1], list) for one in told))
            self.assertEqual(list(reached(tuple(tuple(line) for line in table))), told)
        self.assertEqual(list(reached(TABLE)), [(0, []), (1, [0]), (2, [0, 0])])
        self.assertEqual(list(reached([[]])), [(0, [])])
        self.assertEqual(list(reached([[(A, 2), (A, 1)], [(A, 1), (A, 0)], [(A, 0), (A, 0)]])), [(0, []), (2, [0]), (1, [1])])

    def test_reached_is_a_generator(self):
        self.assertTrue(inspect.isgeneratorfunction(tables.reached))
        made = reached([])
        self.raised(BadTable, [0], next, made)

    def test_point_1_arguments_and_results(self):
        table = [[(A, 1)], [(B, 0)]]
        told = check_table(table, 1)
        told[0].clear()
        told.clear()
        rows = []
        for _, row in reached(table):
            rows.append(list(row))
            row.append(7)
        self.assertEqual(rows, [[], [0]])
        run_table(table, [0, 0]).clear()
        self.assertEqual(table, [[(A, 1)], [(B, 0)]])
        self.assertEqual(list(reached(table)), [(0, []), (1, [0])])
        again = check_table(table, 1)
        table[0].append(None)
        self.assertEqual(again, [[(A, 1)], [(B, 0)]])


if __name__ == "__main__":
    unittest.main()
