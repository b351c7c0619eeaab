"""Points 68 to 70 and 72: least runs, and that no run that is alike has less."""

import itertools
import unittest

from leastshelf.errors import BadKey, BadMark, BadRun, Unordered
from leastshelf.leastruns import entry_count, least_run, letter_count, whole_counts
from leastshelf.overlays import key_set
from leastshelf.rows import stack_reach, stack_window
from leastshelf.runs import Run
from leastshelf.steps import step
from samples import KINDS, TOP, Raising, seeded
from stacks import (ALL_KEYS, CELL_KEYS, NO_KEYS, entry_letters, entry_rows, makes_of, one_run, random_keys, random_marks,
                    random_stack, random_stretch, slow_changes, slow_ground, slow_told, slow_window)
from test_cuts import BAD_MARK_ROWS, BAD_MARKS
from test_rows import BAD_KEYS, bad_stacks

ONE_KEY = key_set([(0, 1)])


def samples(number, many=25, ordered=None):
    """Yields stacks with marks and a key set."""
    rng = seeded(number)
    for kind in KINDS:
        for _ in range(many):
            in_order = rng.random() < 0.7 if ordered is None else ordered
            stack = random_stack(rng, kind, 4, in_order, rng.choice((1, 2, 3)))
            marks = random_marks(rng, slow_window(stack)[1])
            if not in_order:
                marks += [(number, *random_stretch(rng)) for number in range(1, slow_window(stack)[1])]
            yield stack, marks, random_keys(rng)


def slow_row(kind, told, ground):
    """Returns the entry row of the least run for a told row, None if there is none, as point 69 says it."""
    out = []
    for (_, before), (cut, effect) in zip([(0, ground)] + told, told):
        if effect != before:
            taken = step(kind, before, effect)
            if taken is None:
                return None
            out.append((cut, *taken))
    return tuple(out)


def least_or_key(stack, marks, under):
    """Returns the least run, or the key of Unordered."""
    try:
        return least_run(stack, marks, under)
    except Unordered as error:
        return error.key


def small_rows(kind):
    """Yields the end of a window and all entry rows of it with words of few letters."""
    yield 1, entry_rows(kind, 1, (0, 1), 2)
    yield 2, entry_rows(kind, 2, (0, 1), 2)
    yield 3, entry_rows(kind, 3, (0, 1), 1)


def by_told_rows(kind, end, rows, marks, under):
    """Returns the entry rows of a window by the told rows that they make at key 0."""
    found = {}
    for row in rows:
        told = slow_told([one_run(kind, 0, end, row)], marks, under, 0)
        found.setdefault(tuple(told), []).append(row)
    return found


class LeastRunTest(Raising, unittest.TestCase):
    def test_point_69(self):
        unordered = 0
        for stack, marks, under in (*samples(69), *samples(692, 30, False)):
            rows = {key: slow_row(stack[0].kind, slow_told(stack, marks, under, key), slow_ground(under, key))
                    for key in CELL_KEYS}
            told = least_or_key(stack, marks, under)
            without = [key for key, row in rows.items() if row is None]
            if without:
                unordered += 1
                self.assertEqual(told, min(without))
                continue
            self.assertIsInstance(told, Run)
            self.assertEqual((told.kind, (told.begin, told.end)), (stack[0].kind, stack_window(stack)))
            self.assertEqual(told.reach(), stack_reach(stack))
            self.assertEqual({key: told.entries_at(key) for key in CELL_KEYS}, rows)
        self.assertGreater(unordered, 3)

    def test_point_69_windows_in_order_have_least_runs(self):
        for stack, marks, under in samples(690, ordered=True):
            self.assertIsInstance(least_run(stack, marks, under), Run)

    def test_point_69_other_windows_have_them_outside_of_under(self):
        for stack, marks, under in samples(691, ordered=False):
            told = least_or_key(stack, marks, under)
            if not isinstance(told, Run):
                self.assertTrue(under.at(told))
            self.assertIsInstance(least_run(stack, marks, NO_KEYS), Run)

    def test_the_reach_stays(self):
        for kind in KINDS:
            run = Run(kind, 3, 5, key_set([(2, 9)]), [])
            self.assertEqual(least_run([run], [(4, 0, 5)], key_set([(0, 4)])), run)
            self.assertEqual(least_run([run], [], NO_KEYS), run)
            empty = Run(kind, 0, 1, NO_KEYS, [])
            self.assertEqual(least_run((empty, run), (), ALL_KEYS), Run(kind, 0, 5, key_set([(2, 9)]), []))

    def test_entries_at_the_first_and_the_last_number(self):
        for kind in KINDS:
            run = one_run(kind, 2, 5, ((3, True, ()), (5, True, ())))
            self.assertEqual(least_run([run], [(3, 0, 1)], ONE_KEY).pieces(), [(0, 1, ((3, True, ()),))])
            self.assertEqual(least_run([run], [(4, 0, 1)], ONE_KEY).pieces(), [(0, 1, ((4, True, ()),))])
            self.assertEqual(least_run([run], [], ONE_KEY).pieces(), [(0, 1, ((5, True, ()),))])
            self.assertEqual(least_run([run], [(3, 0, 1), (5, 0, 1), (2, 0, 1)], NO_KEYS).pieces(), [])

    def test_point_71_stones(self):
        for kind in KINDS:
            for row in (((1, True, ()),), ((1, True, ()), (2, True, ()))):
                run = one_run(kind, 0, 2, row)
                for marks, cut in (([], 2), ([(1, 0, 1)], 1)):
                    self.assertEqual(least_run([run], marks, ONE_KEY).entries_at(0), ((cut, True, ()),))
                    self.assertEqual(least_run([run], marks, NO_KEYS).entries_at(0), ())

    def test_bad_arguments_in_their_order(self):
        for stack, place in bad_stacks():
            self.raised(BadRun, [place], least_run, stack, None, NO_KEYS)
        old, new = one_run("list", 1, 2, ((2, False, (1,)),)), one_run("list", 0, 1, ((1, False, (2,)),))
        for thing in BAD_MARK_ROWS:
            self.raised(BadMark, [0], least_run, [old, new], thing, ONE_KEY)
        for thing in BAD_MARKS:
            self.raised(BadMark, [1], least_run, [old, new], [(1, 0, 1), thing], ONE_KEY)
        self.raised(Unordered, [0], least_run, [old, new], [(1, 0, 1)], ONE_KEY)

    def test_example(self):
        run = Run.of_batches("list", 0, [[(0, 10, True, (1,))], [(5, 15, False, (2,))], [(0, 10, False, (3,))]])
        least = least_run([run], [(1, 0, 10)], key_set([(5, 20)]))
        told = [least.entries_at(0), least.entries_at(5), least.entries_at(10), whole_counts(least)]
        self.assertEqual(told, [((1, True, (1,)), (3, False, (3,))), ((1, True, (1,)), (3, False, (2, 3))), ((3, False, (2,)),),
                                (25, 30)])
        old = Run.of_batches("list", 4, [[(0, 2, False, (1,))]])
        new = Run.of_batches("list", 1, [[(1, 3, False, (2,))]])
        self.raised(Unordered, [1], least_run, [old, new], [(2, 0, 9)], key_set([(0, 9)]))

    def test_point_1_arguments_stay(self):
        run = Run.of_batches("list", 0, [[(0, 9, False, (1,))], [(0, 9, False, (2,))]])
        stack, marks = [run], [(1, 0, 5)]
        least = least_run(stack, marks, ALL_KEYS)
        said = least.pieces()
        self.assertEqual((stack, marks, run.pieces()), ([run], [(1, 0, 5)], [(0, 9, ((1, False, (1,)), (2, False, (2,))))]))
        stack.clear()
        marks.clear()
        least.pieces().clear()
        self.assertEqual(least.pieces(), said)


class AlikeTest(unittest.TestCase):
    def test_point_68_least_runs_are_alike_to_their_stacks(self):
        for stack, marks, under in samples(68):
            least = least_or_key(stack, marks, under)
            for key in CELL_KEYS if isinstance(least, Run) else ():
                told = slow_told(stack, marks, under, key)
                self.assertEqual(slow_told([least], marks, under, key), told)
                made = makes_of(stack[0].kind, slow_told([least], marks, under, key), under.at(key))
                self.assertEqual(made, makes_of(stack[0].kind, told, under.at(key)))

    def test_point_68_alike_exactly_if_told_rows_are_equal(self):
        for kind in KINDS:
            for end, rows in itertools.islice(small_rows(kind), 2):
                marks = [(1, 0, 1)]
                for under in (ONE_KEY, NO_KEYS):
                    found = by_told_rows(kind, end, rows, marks, under)
                    made = {repr(makes_of(kind, list(told), under.at(0), (0, 1, 2))) for told in found}
                    self.assertEqual(len(made), len(found))

    def test_point_70_the_least_run_of_a_least_run(self):
        for stack, marks, under in samples(70):
            least = least_or_key(stack, marks, under)
            if isinstance(least, Run):
                self.assertEqual(least_run([least], marks, under), least)

    def test_point_70_no_alike_run_has_less(self):
        for kind in KINDS:
            for end, rows in small_rows(kind):
                for many in range(end):
                    for numbers in itertools.combinations(range(1, end), many):
                        marks = [(number, 0, 1) for number in numbers]
                        for under in (ONE_KEY, NO_KEYS):
                            self.least_of_each(kind, end, rows, marks, under)

    def test_point_70_no_alike_run_has_less_than_stacks_of_two_runs(self):
        rng = seeded(702)
        for kind in KINDS:
            rows = entry_rows(kind, 3, (0, 1), 1)
            for marks, under in (([], ONE_KEY), ([(1, 0, 1)], ONE_KEY), ([(2, 0, 1)], NO_KEYS), ([(1, 0, 1), (2, 0, 1)], ONE_KEY)):
                found = by_told_rows(kind, 3, rows, marks, under)
                for _ in range(25):
                    number, row = rng.randrange(1, 3), rng.choice(rows)
                    stack = [one_run(kind, 0, number, tuple(entry for entry in row if entry[0] <= number)),
                             one_run(kind, number, 3, tuple(entry for entry in row if entry[0] > number))]
                    least = least_run(stack, marks, under).entries_at(0)
                    for other in found[tuple(slow_told(stack, marks, under, 0))]:
                        self.assertLessEqual(len(least), len(other))
                        self.assertLessEqual(entry_letters(least), entry_letters(other))

    def least_of_each(self, kind, end, rows, marks, under):
        """The least run of each told row has the fewest entries and letters of all rows that make it."""
        cuts = [0] + sorted({number for number, _, _ in marks}) + [end]
        for told, alike in by_told_rows(kind, end, rows, marks, under).items():
            least = least_run([one_run(kind, 0, end, alike[0])], marks, under).entries_at(0)
            self.assertEqual(len(least), slow_changes(list(told), slow_ground(under, 0)))
            for row in alike:
                self.assertLessEqual(len(least), len(row))
                for low, high in zip(cuts, cuts[1:]):
                    one, other = [[entry for entry in both if low < entry[0] <= high] for both in (least, row)]
                    self.assertLessEqual(len(one), len(other))
                    self.assertLessEqual(entry_letters(one), entry_letters(other))

    def test_point_70_a_least_run_exactly_if_some_run_is_alike(self):
        rng = seeded(700)
        marks = [(1, 0, 1)]
        for kind in KINDS:
            without = 0
            found = by_told_rows(kind, 2, entry_rows(kind, 2, (0, 1), 2), marks, ONE_KEY)
            runs = [one_run(kind, 0, 2, row) for row in entry_rows(kind, 2, (0, 1), 1)]
            for stack in rng.sample(list(itertools.product(runs, runs)), min(400, len(runs) ** 2)):
                told = least_or_key(stack, marks, ONE_KEY)
                if isinstance(told, Run):
                    self.assertEqual(slow_told([told], marks, ONE_KEY, 0), slow_told(stack, marks, ONE_KEY, 0))
                else:
                    without += 1
                    self.assertEqual(told, 0)
                    self.assertNotIn(tuple(slow_told(stack, marks, ONE_KEY, 0)), found)
            self.assertEqual(without > 0, kind in ("list", "first", "ends", "heads"))

    def test_point_70_alike_exactly_if_least_runs_are_equal(self):
        rng = seeded(701)
        for kind in KINDS:
            rows = entry_rows(kind, 2, (0, 1), 1)
            for under in (ONE_KEY, NO_KEYS):
                for marks in ([], [(1, 0, 1)]):
                    least = {row: least_run([one_run(kind, 0, 2, row)], marks, under) for row in rows}
                    told = {row: slow_told([one_run(kind, 0, 2, row)], marks, under, 0) for row in rows}
                    for _ in range(200):
                        one, other = rng.choice(rows), rng.choice(rows)
                        self.assertIs(told[one] == told[other], least[one] == least[other])

    def test_point_72_further_marks_and_keys_leave_no_fewer(self):
        rng = seeded(72)
        for stack, marks, under in samples(720, ordered=True):
            more = marks + random_marks(rng, slow_window(stack)[1])
            wider = key_set([(a, b) for a, b, _ in under] + [random_stretch(rng)])
            one, other = least_run(stack, marks, under), least_run(stack, more, wider)
            for key in CELL_KEYS:
                self.assertLessEqual(len(one.entries_at(key)), len(other.entries_at(key)))
                self.assertLessEqual(entry_letters(one.entries_at(key)), entry_letters(other.entries_at(key)))

    def test_point_72_least_runs_of_parts_of_a_stack(self):
        rng = seeded(721)
        for stack, marks, under in samples(722, ordered=True):
            more = marks + random_marks(rng, slow_window(stack)[1], 2)
            new, at = [], 0
            while at < len(stack):
                many = rng.randrange(1, len(stack) - at + 1)
                keys = [(a, b) for run in stack[:at] for a, b, _ in run.reach()] + [(a, b) for a, b, _ in under]
                new.append(least_run(stack[at:at + many], more, key_set(keys)))
                at += many
            for key in CELL_KEYS:
                self.assertEqual(slow_told(new, marks, under, key), slow_told(stack, marks, under, key))
            self.assertEqual(least_run(new, marks, under), least_run(stack, marks, under))


class CountsTest(Raising, unittest.TestCase):
    def test_counts_at_keys(self):
        for stack, _, _ in samples(73, 4):
            for run in stack:
                for key in CELL_KEYS:
                    row = run.entries_at(key)
                    self.assertEqual((entry_count(run, key), letter_count(run, key)), (len(row), entry_letters(row)))

    def test_whole_counts(self):
        rng = seeded(74)
        for stack, _, _ in samples(75, 4):
            for run in stack:
                over = random_keys(rng)
                told = []
                for keys in (ALL_KEYS, over):
                    rows = [(min(b, d) - max(a, c), row) for a, b, row in run.pieces() for c, d, _ in keys]
                    rows = [(many, row) for many, row in rows if many > 0]
                    told.append((sum(many * len(row) for many, row in rows),
                                 sum(many * entry_letters(row) for many, row in rows)))
                self.assertEqual([whole_counts(run), whole_counts(run, over=over)], told)
                self.assertIsInstance(whole_counts(run), tuple)
                self.assertEqual((whole_counts(run, over=None), whole_counts(run, over=NO_KEYS)), (told[0], (0, 0)))

    def test_counts_at_the_edges(self):
        row = ((1, True, (1, 2)), (2, False, (3,)), (3, True, ()))
        run = Run("list", 0, 3, ALL_KEYS, [(0, 2, row), (TOP - 5, TOP, row[:1])])
        self.assertEqual(whole_counts(run), (11, 16))
        self.assertEqual(whole_counts(run, over=key_set([(1, 3), (TOP - 1, TOP)])), (4, 5))
        self.assertEqual((entry_count(run, TOP - 1), letter_count(run, 0), letter_count(run, 2)), (1, 3, 0))
        self.assertEqual(whole_counts(Run("list", 0, 3, NO_KEYS, [])), (0, 0))
        for key in BAD_KEYS:
            self.raised(BadKey, [key], entry_count, run, key)
            self.raised(BadKey, [key], letter_count, run, key)


if __name__ == "__main__":
    unittest.main()
