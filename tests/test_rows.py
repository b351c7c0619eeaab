"""Points 65 to 67: stacks and their told rows."""

import inspect
import unittest

from leastshelf.errors import BadKey, BadMark, BadRun
from leastshelf.overlays import key_set
from leastshelf.rows import row_at, stack_reach, stack_up_to, stack_window, told_row, told_rows
from leastshelf.runs import Run
from samples import KINDS, ODD_VALUES, TOP, Raising, seeded
from stacks import (CELL_KEYS, NO_KEYS, one_run, random_keys, random_marks, random_stack, slow_cuts, slow_told, slow_up_to,
                    slow_window)
from test_cuts import BAD_MARK_ROWS, BAD_MARKS

BAD_KEYS = ODD_VALUES + (TOP, "3", (3,))


def samples(number, many=25):
    """Yields stacks with marks and a key set."""
    rng = seeded(number)
    for kind in KINDS:
        for _ in range(many):
            stack = random_stack(rng, kind, 4, rng.random() < 0.6, 2)
            yield stack, random_marks(rng, slow_window(stack)[1]), random_keys(rng)


def bad_stacks():
    """Yields values that are no stacks, with the place that is wrong."""
    put = one_run("set", 0, 1, ((1, True, (1,)),))
    other = one_run("list", 0, 1, ((1, True, (1,)),))
    for thing in ODD_VALUES + ([], (), put, "ab"):
        yield thing, 0
    for thing in ODD_VALUES + (other, [put], None):
        yield [put, thing], 1
        yield (put, put, thing, None), 2
    for thing in ODD_VALUES:
        yield [thing, put], 0
    yield [put, other, put], 1
    yield [other, put, None], 1


class StacksTest(Raising, unittest.TestCase):
    def test_point_65_windows_and_reaches(self):
        for stack, _, _ in samples(65):
            told = stack_window(stack)
            self.assertIsInstance(told, tuple)
            self.assertEqual(told, slow_window(stack))
            self.assertEqual(stack_window(tuple(stack)), told)
            reach = stack_reach(stack)
            self.assertIs(reach.neutral, False)
            for key in CELL_KEYS:
                self.assertIs(reach.at(key), any(run.reach().at(key) for run in stack))

    def test_windows(self):
        runs = [Run("bag", begin, end, NO_KEYS, []) for begin, end in ((4, 9), (2, 3), (5, 6))]
        self.assertEqual(stack_window(runs), (2, 9))
        self.assertEqual(stack_window(runs[2:]), (5, 6))
        self.assertEqual(stack_reach(runs), NO_KEYS)

    def test_point_65_effects(self):
        for stack, _, _ in samples(650, 12):
            for key in CELL_KEYS:
                for number in range(-1, slow_window(stack)[1] + 2):
                    self.assertEqual(stack_up_to(stack, key, number), slow_up_to(stack, key, number))

    def test_the_first_run_comes_first(self):
        put, part = one_run("list", 0, 1, ((1, True, (1,)),)), one_run("list", 0, 1, ((1, False, (2,)),))
        self.assertEqual(stack_up_to([put, part], 0, 1), (True, (1, 2)))
        self.assertEqual(stack_up_to([part, put], 0, 1), (True, (1,)))
        self.assertEqual(stack_up_to([put, part], 0, 0), (False, ()))

    def test_bad_stacks(self):
        for stack, place in bad_stacks():
            self.raised(BadRun, [place], stack_window, stack)
            self.raised(BadRun, [place], stack_reach, stack)
            self.raised(BadRun, [place], stack_up_to, stack, None, 1)
            self.raised(BadRun, [place], row_at, stack, None, None)
            self.raised(BadRun, [place], told_row, stack, None, NO_KEYS, None)
            self.raised(BadRun, [place], lambda rows: list(told_rows(rows, None, NO_KEYS)), stack)

    def test_bad_marks(self):
        stack = [one_run("set", 0, 3, ((1, True, (1,)),))]
        for thing in BAD_MARK_ROWS:
            self.raised(BadMark, [0], row_at, stack, thing, None)
            self.raised(BadMark, [0], told_row, stack, thing, NO_KEYS, None)
            self.raised(BadMark, [0], lambda marks: list(told_rows(stack, marks, NO_KEYS)), thing)
        for thing in BAD_MARKS:
            marks = [(1, 0, 1), thing, None]
            self.raised(BadMark, [1], row_at, stack, marks, TOP)
            self.raised(BadMark, [1], told_row, stack, marks, NO_KEYS, TOP)
            self.raised(BadMark, [1], lambda marks: list(told_rows(stack, marks, NO_KEYS)), marks)

    def test_bad_keys(self):
        stack = [one_run("set", 0, 3, ((1, True, (1,)),))]
        for key in BAD_KEYS:
            self.raised(BadKey, [key], stack_up_to, stack, key, 1)
            self.raised(BadKey, [key], row_at, stack, [(1, 0, 1)], key)
            self.raised(BadKey, [key], told_row, stack, (), NO_KEYS, key)


class RowsTest(unittest.TestCase):
    def test_point_66_rows(self):
        for stack, marks, under in samples(66):
            for key in CELL_KEYS:
                cuts = slow_cuts(*slow_window(stack), marks, key)
                told = row_at(stack, marks, key)
                self.assertIsInstance(told, list)
                self.assertEqual(told, [(cut, slow_up_to(stack, key, cut)) for cut in cuts])
                told = told_row(stack, marks, under, key)
                self.assertIsInstance(told, list)
                self.assertEqual(told, slow_told(stack, marks, under, key))

    def test_point_66_keys_of_under_and_others(self):
        for kind in ("list", "bag", "set", "heads", "tails"):
            run = one_run(kind, 0, 2, ((1, False, (1,)), (2, False, (2,))))
            self.assertEqual(told_row([run], [(1, 0, 1)], key_set([(0, 1)]), 0), [(1, (False, (1,))), (2, (False, (1, 2)))])
            self.assertEqual(told_row([run], [(1, 0, 1)], key_set([(1, 2)]), 0), [(1, (True, (1,))), (2, (True, (1, 2)))])
            self.assertEqual(row_at([run], [(1, 0, 1)], 0), [(1, (False, (1,))), (2, (False, (1, 2)))])
            self.assertEqual(told_row([run], [], key_set([(5, 6)]), 5), [(2, (False, ()))])
            self.assertEqual(told_row([run], [], key_set([(5, 6)]), 7), [(2, (True, ()))])

    def test_point_67_gaps(self):
        for stack, marks, under in samples(67):
            told = list(told_rows(stack, marks, under))
            pieces = [piece for run in stack for piece in run.pieces()]
            pieces += [(a, b, None) for _, a, b in marks] + under.pieces()
            borders = sorted({end for a, b, _ in pieces for end in (a, b)})
            self.assertEqual([(a, b) for a, b, _ in told], list(zip(borders, borders[1:])))
            for a, b, row in told:
                self.assertIsInstance(row, list)
                for key in {a, b - 1}:
                    self.assertEqual(row, slow_told(stack, marks, under, key))
            for key in CELL_KEYS:
                if not any(a <= key < b for a, b, _ in told):
                    self.assertEqual(told_row(stack, marks, under, key), [(slow_window(stack)[1], (True, ()))])

    def test_point_67_marks_that_cut_nothing_have_borders(self):
        run = one_run("set", 2, 4, ((3, True, (1,)),), 5)
        for number in (0, 2, 4, 9):
            told = list(told_rows([run], [(number, 3, 6), (number, 9, 10)], NO_KEYS))
            self.assertEqual(told, [(3, 5, [(4, (True, ()))]), (5, 6, [(4, (True, (1,)))]), (6, 9, [(4, (True, ()))]),
                                    (9, 10, [(4, (True, ()))])])
        self.assertEqual(list(told_rows([run], [], NO_KEYS)), [(5, 6, [(4, (True, (1,)))])])
        self.assertEqual(list(told_rows([Run("set", 0, 1, key_set([(0, 9)]), [])], [], NO_KEYS)), [])
        told = list(told_rows([run], [(3, 5, 6)], key_set([(4, 6)])))
        self.assertEqual(told, [(4, 5, [(4, (False, ()))]), (5, 6, [(3, (True, (1,))), (4, (True, (1,)))])])

    def test_a_generator(self):
        self.assertTrue(inspect.isgenerator(told_rows(None, None, None)))
        run = one_run("set", 2, 4, ((3, True, (1,)),), 5)
        rows = told_rows([run], [], NO_KEYS)
        self.assertEqual(next(rows), (5, 6, [(4, (True, (1,)))]))

    def test_point_1_results_are_new(self):
        stack = [one_run("set", 0, 2, ((1, True, (1,)),))]
        marks = [(1, 0, 1)]
        said = [(1, (True, (1,))), (2, (True, (1,)))]
        row_at(stack, marks, 0).clear()
        told_row(stack, marks, NO_KEYS, 0).clear()
        list(told_rows(stack, marks, NO_KEYS))[0][2].clear()
        self.assertEqual((row_at(stack, marks, 0), told_row(stack, marks, NO_KEYS, 0)), (said, said))
        self.assertEqual((list(told_rows(stack, marks, NO_KEYS)), marks, len(stack)), ([(0, 1, said)], [(1, 0, 1)], 1))


if __name__ == "__main__":
    unittest.main()
