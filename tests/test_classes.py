"""Points 51, 52, 55 and 56: classes of states, least tables, and changed tables."""

import itertools
import unittest

from leastshelf.classes import class_numbers, doubled, least_table, parting_row, without_steps
from leastshelf.errors import BadStep, BadTable, NoPlace
from leastshelf.menus import Menu
from leastshelf.tables import reached, run_table, step_count
from samples import ODD_VALUES, Raising, seeded
from test_menus import SMALL, sample_menus
from test_tables import A, B, TABLE, bad_tables, random_table, rows_of, slow_run

CALLS = ((class_numbers,), (least_table,), (parting_row, None, None), (without_steps, [None]), (doubled, None))


def slow_parting_row(table, one, other, steps, longest):
    """Returns the first row with at most so many steps along which the answers are unequal, or None."""
    for row in rows_of(steps, longest):
        if slow_run(table, row, one)[0] != slow_run(table, row, other)[0]:
            return row
    return None


def sample_tables(seed, many=60, most=5):
    """Yields small tables with the numbers of their states and steps."""
    rng = seeded(seed)
    for _ in range(many):
        states, steps = rng.randrange(1, most), rng.randrange(3)
        yield random_table(rng, states, steps, rng.choice([((),), ((), A), (A, B, ("x", [1]))])), states, steps


def chain(states):
    """Returns a table whose states are told apart by ever longer rows alone."""
    return [[(A, min(number + 1, states - 1)), (B if number == states - 1 else A, number)] for number in range(states)]


class ClassesTest(Raising, unittest.TestCase):
    def test_point_51_parting_rows(self):
        for table, states, steps in sample_tables(51):
            for one, other in itertools.product(range(states), repeat=2):
                told = parting_row(table, one, other)
                self.assertEqual(told, slow_parting_row(table, one, other, steps, states))
                if told is not None:
                    self.assertIsInstance(told, list)
                    self.assertEqual(run_table(table, told[:-1], start=one), run_table(table, told[:-1], start=other))

    def test_point_51_fewer_steps_than_classes(self):
        for table, states, _ in sample_tables(151):
            numbers = class_numbers(table)
            met = [state for state in range(states) if numbers[state] is not None]
            for one, other in itertools.product(met, repeat=2):
                told = parting_row(table, one, other)
                self.assertEqual(told is None, numbers[one] == numbers[other])
                self.assertTrue(told is None or 1 <= len(told) < len(least_table(table)))

    def test_point_51_longest_rows(self):
        table = chain(6)
        self.assertEqual(class_numbers(table), [0, 1, 2, 3, 4, 5])
        self.assertEqual(parting_row(table, 0, 1), [0, 0, 0, 0, 1])
        self.assertEqual(parting_row(table, 5, 0), [1])
        self.assertEqual(parting_row(table, 3, 2), [0, 0, 1])
        self.assertIsNone(parting_row(table, 4, 4))

    def test_point_51_the_first_of_the_rows(self):
        table = [[(A, 0), (A, 2), (A, 2)], [(A, 1), (A, 3), (A, 3)], [(A, 2), (A, 2), (A, 2)], [(A, 3), (B, 3), (B, 3)]]
        self.assertEqual(parting_row(table, 0, 1), [1, 1])
        self.assertEqual(parting_row(table, 2, 3), [1])
        self.assertEqual(parting_row(table, 1, 0), [1, 1])
        self.assertEqual(class_numbers(table), [0, None, 0, None])
        self.assertIsNone(parting_row(table, 0, 2))

    def test_point_52_class_numbers(self):
        for table, states, steps in sample_tables(52):
            first = {}
            for row in rows_of(steps, states):
                first.setdefault(slow_run(table, row)[1], row)
            order = sorted(first, key=lambda state: (len(first[state]), first[state]))
            kinds = []
            said = [None] * states
            for state in order:
                same = [at for at, one in enumerate(kinds) if slow_parting_row(table, one, state, steps, states) is None]
                if not same:
                    kinds.append(state)
                said[state] = same[0] if same else len(kinds) - 1
            self.assertEqual(class_numbers(table), said)

    def test_point_52_least_tables(self):
        for table, states, steps in sample_tables(152):
            least = least_table(table)
            numbers = class_numbers(table)
            self.assertEqual(len(least), len(set(numbers) - {None}))
            self.assertTrue(all(isinstance(line, list) for line in least))
            for state, _ in reached(table):
                answers = [answer for answer, _ in table[state]]
                self.assertEqual([answer for answer, _ in least[numbers[state]]], answers)
                self.assertEqual([target for _, target in least[numbers[state]]], [numbers[target] for _, target in table[state]])
            for row in rows_of(steps, 4):
                self.assertEqual(run_table(least, row), run_table(table, row))
            self.assertEqual(least_table(least), least)
            self.assertEqual(class_numbers(least), list(range(len(least))))

    def test_point_52_equal_answers_exactly_if_least_tables_are_equal(self):
        told = [(table, steps) for table, _, steps in sample_tables(252, 40, 4)]
        for (one, steps), (other, many) in itertools.combinations(told, 2):
            if steps == many:
                same = all(run_table(one, row) == run_table(other, row) for row in rows_of(steps, 5))
                self.assertEqual(least_table(one) == least_table(other), same)

    def test_point_52_edges(self):
        self.assertEqual((class_numbers([[]]), least_table([[]])), ([0], [[]]))
        self.assertEqual((class_numbers([[], []]), least_table([(), []])), ([0, None], [[]]))
        self.assertIsNone(parting_row([[], []], 0, 1))
        self.assertEqual(class_numbers([[(A, 0)], [(B, 0)]]), [0, None])
        self.assertEqual(class_numbers([[(A, 2)], [(B, 0)], [(A, 0)]]), [0, None, 0])
        self.assertEqual(least_table(TABLE), [list(line) for line in TABLE[:3]])
        self.assertEqual(parting_row(TABLE, 3, 0), [0])

    def test_point_48_answers_are_compared(self):
        table = [[((1, [2]), 1)], [((True, [2]), 2)], [((1, [3]), 0)]]
        self.assertEqual(class_numbers(table), [0, 1, 2])
        self.assertEqual(parting_row(table, 0, 1), [0, 0])
        self.assertEqual(parting_row(table, 1, 2), [0])
        table[2] = [((1.0, [2]), 0)]
        self.assertEqual(class_numbers(table), [0, 0, 0])

    def test_example(self):
        menu = Menu("first", [("write", [(0, 1, False, (3,))]), ("sync",), ("crash", 0), ("read", 0)], most=1)
        table = menu.table()
        told = [class_numbers(table), parting_row(table, 1, 3), class_numbers(without_steps(table, [2]))]
        self.assertEqual(told, [[0, 1, 2, 3], [2, 3], [0, 1, 2, 1]])


class ErrorsTest(Raising, unittest.TestCase):
    def test_bad_tables_first(self):
        for call, *rest in CALLS:
            for table, place in bad_tables(2):
                if place or not isinstance(table, (list, tuple)) or not table or len(table[0:1][0] if isinstance(
                        table[0], (list, tuple)) else "ab") == 2:
                    self.raised(BadTable, [place], call, table, *rest)
            self.raised(BadTable, [0], call, [], *rest)
            self.raised(BadTable, [1], call, [[(A, 0)], []], *rest)

    def test_no_place(self):
        for thing in ODD_VALUES + (4, "0", (0,), [0]):
            self.raised(NoPlace, [thing], parting_row, TABLE, thing, 77)
            self.raised(NoPlace, [thing], parting_row, TABLE, 3, thing)
            self.raised(NoPlace, [thing], doubled, TABLE, thing)

    def test_bad_numbers(self):
        for thing in ODD_VALUES + (2, "0", (0,), [0]):
            for row in ([thing], [0, 1, thing, thing], (1, thing, 0)):
                place = [at for at, entry in enumerate(row) if entry is thing][0]
                self.raised(BadStep, [place], without_steps, TABLE, row)


class ChangedTest(unittest.TestCase):
    def test_point_55_without_steps(self):
        rng = seeded(55)
        for table, states, steps in sample_tables(55):
            out = [rng.randrange(steps) for _ in range(rng.randrange(4))] if steps else []
            told = without_steps(table, out)
            self.assertEqual(told, [[entry for at, entry in enumerate(line) if at not in out] for line in table])
            self.assertEqual(without_steps(tuple(map(tuple, table)), tuple(out)), told)
            self.assertTrue(all(isinstance(line, list) for line in told))
            self.assertLessEqual(len(least_table(told)), len(least_table(table)))
        self.assertEqual(without_steps(TABLE, [1, 0, 1]), [[], [], [], []])
        self.assertEqual(without_steps(TABLE, []), [list(line) for line in TABLE])

    def test_point_56_doubled(self):
        rng = seeded(56)
        for kind, steps, most in sample_menus():
            table = Menu(kind, steps, most=most).table()
            state = rng.randrange(len(table))
            told = doubled(table, state)
            self.assertEqual(told, [*table, table[state]])
            self.assertEqual(doubled(tuple(map(tuple, table)), state), told)
            self.assertEqual(least_table(told), least_table(table))
            for line in told:
                for at, (answer, target) in enumerate(line):
                    if target == state and rng.random() < 0.5:
                        line[at] = (answer, len(table))
            self.assertEqual(least_table(told), least_table(table))
            self.assertEqual(table, Menu(kind, steps, most=most).table())

    def test_point_56_changed_nexts_and_answers(self):
        for kind, steps, most in [("set", SMALL[:4], 1), ("first", SMALL[:3], 1), ("heads", (SMALL[1], *SMALL[3:]), 1)]:
            table = Menu(kind, steps, most=most).table()
            numbers, least = class_numbers(table), least_table(table)
            for state, at in itertools.product(range(len(table)), range(len(steps))):
                answer, old = table[state][at]
                for new in range(len(table)):
                    changed = [list(line) for line in table]
                    changed[state][at] = (answer, new)
                    self.assertEqual(least_table(changed) == least, numbers[old] == numbers[new])
                changed = [list(line) for line in table]
                changed[state][at] = (("changed",), old)
                row = [*dict(reached(table))[state], at]
                first = [one for one in rows_of(len(steps), len(row)) if run_table(table, one) != run_table(changed, one)]
                self.assertEqual(first[0], row)

    def test_point_1_arguments_and_results(self):
        table = [list(line) for line in TABLE]
        for told in (least_table(table), without_steps(table, [0]), doubled(table, 1), doubled(table, 0)):
            for line in told:
                line.clear()
            told.clear()
        class_numbers(table).clear()
        parting_row(table, 0, 1).clear()
        self.assertEqual(table, [list(line) for line in TABLE])
        self.assertEqual(step_count(table), 2)
        twice = doubled(table, 1)
        twice[1].clear()
        self.assertEqual(twice[4], TABLE[1])


if __name__ == "__main__":
    unittest.main()
