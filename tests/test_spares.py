"""Points 83 and 84: weights, the spare table, and the fewest cuts to let go."""

import itertools
import unittest

from leastshelf.dropping import changes
from leastshelf.errors import BadLimit, BadMark, BadRun, TooMany
from leastshelf.leastruns import least_run, whole_counts
from leastshelf.runs import Run
from leastshelf.spares import fewest_to_drop, kept_cuts, spare_table, weights
from samples import KINDS, ODD_VALUES, TOP, Raising, seeded
from stacks import ALL_KEYS, CELL_KEYS, NO_KEYS, one_run, random_keys, random_stack, slow_ground, slow_told, slow_window
from test_rows import bad_stacks


def samples(number, many=12):
    """Yields stacks with key sets and rows of numbers of marks."""
    rng = seeded(number)
    for kind in KINDS:
        for _ in range(many):
            stack = random_stack(rng, kind, 3, True, rng.choice((1, 2)))
            top = slow_window(stack)[1]
            numbers = [rng.randrange(top + 2) for _ in range(rng.randrange(7))]
            yield stack, random_keys(rng), rng.choice((numbers, tuple(numbers)))


def over_all(numbers):
    """Returns the marks with these numbers over all keys."""
    return [(number, 0, TOP) for number in numbers]


def sizes():
    """Returns the cell keys that stand for all keys of their cells, with how many these are."""
    return [(key, 1) for key in CELL_KEYS[:-2]] + [(CELL_KEYS[-1], TOP - CELL_KEYS[-2])]


def slow_cuts_of(stack, numbers):
    """Returns the cuts at all keys."""
    begin, end = slow_window(stack)
    return sorted({number for number in numbers if begin < number < end}) + [end]


def total(stack, under, numbers):
    """Returns the changes of all keys together under marks over all keys."""
    return sum(many * (b - a) for a, b, many in changes(stack, over_all(numbers), under))


def choices(cuts):
    """Returns all rows of cuts that have the last one, the shortest first."""
    rows = [row for many in range(len(cuts)) for row in itertools.combinations(cuts[:-1], many)]
    return [list(row) + cuts[-1:] for row in rows]


class WeightsTest(Raising, unittest.TestCase):
    def test_point_83_weights(self):
        for stack, under, numbers in samples(83):
            told = weights(stack, under, numbers)
            many = len(slow_cuts_of(stack, numbers)) + 1
            said = [[0] * many for _ in range(many)]
            for key, size in sizes():
                row = slow_told(stack, over_all(numbers), under, key)
                effects = [slow_ground(under, key)] + [effect for _, effect in row]
                for i, j in itertools.product(range(many), repeat=2):
                    said[i][j] += size * (effects[i] != effects[j])
            self.assertEqual(told, said)
            self.assertIsInstance(told, list)
            self.assertTrue(all(isinstance(row, list) for row in told))

    def test_point_83_changes_of_the_cuts_that_stay(self):
        for stack, under, numbers in samples(830, 6):
            cuts, table = slow_cuts_of(stack, numbers), weights(stack, under, numbers)
            for row in choices(cuts):
                places = [0] + [cuts.index(cut) + 1 for cut in row]
                said = sum(table[i][j] for i, j in zip(places, places[1:]))
                self.assertEqual(total(stack, under, row), said)
                self.assertEqual(whole_counts(least_run(stack, over_all(row), under))[0], said)

    def test_no_mark_cuts(self):
        for kind in KINDS:
            stone = one_run(kind, 2, 5, ((3, True, ()),))
            for numbers in ([], (0, 2, 5, 9), [5, 5]):
                self.assertEqual(weights([stone], ALL_KEYS, numbers), [[0, 1], [1, 0]])
                self.assertEqual(weights([stone], NO_KEYS, numbers), [[0, 0], [0, 0]])
                self.assertEqual(spare_table([stone], ALL_KEYS, numbers), [[0, None], [None, 1]])
                self.assertEqual(kept_cuts([stone], ALL_KEYS, numbers, 1), [5])
                self.assertEqual(fewest_to_drop([stone], ALL_KEYS, numbers, 0), [])
                self.raised(TooMany, [0], fewest_to_drop, [stone], ALL_KEYS, numbers, 1)
            empty = Run(kind, 0, 3, NO_KEYS, [])
            self.assertEqual(weights([empty], ALL_KEYS, [1, 2]), [[0] * 4] * 4)

    def test_errors_in_their_order(self):
        stack = [one_run("set", 0, 3, ((1, True, (1,)),))]
        calls = ((weights,), (spare_table,), (kept_cuts, None), (fewest_to_drop, 10 ** 9))
        for call, *more in calls:
            for thing, place in bad_stacks():
                self.raised(BadRun, [place], call, thing, NO_KEYS, [None], *more)
            for thing in ODD_VALUES + ((1, 0, 9), [1], -5, "1"):
                if thing != 10 ** 30:
                    self.raised(BadMark, [0], call, stack, NO_KEYS, [thing], *more)
                    self.raised(BadMark, [2], call, stack, NO_KEYS, (1, 9, thing, None), *more)
        for many in ODD_VALUES + (0, 3, "1", (1,)):
            self.raised(BadLimit, [many], kept_cuts, stack, NO_KEYS, [1], many)
        self.raised(BadLimit, [2], kept_cuts, stack, NO_KEYS, [], 2)

    def test_point_1_results_are_new(self):
        stack, numbers = [one_run("set", 0, 3, ((1, True, (1,)), (3, True, ())))], [1, 2]
        said = [call(stack, NO_KEYS, numbers) for call in (weights, spare_table)]
        for call in (weights, spare_table):
            call(stack, NO_KEYS, numbers)[0].clear()
            call(stack, NO_KEYS, numbers).clear()
        kept_cuts(stack, NO_KEYS, numbers, 2).clear()
        fewest_to_drop(stack, NO_KEYS, numbers, 1).clear()
        self.assertEqual([call(stack, NO_KEYS, numbers) for call in (weights, spare_table)], said)
        self.assertEqual((numbers, len(stack)), ([1, 2], 1))


class SpareTableTest(Raising, unittest.TestCase):
    def test_point_84_table(self):
        for stack, under, numbers in samples(84):
            table, rows = weights(stack, under, numbers), spare_table(stack, under, numbers)
            many = len(table)
            self.assertEqual((len(rows), {len(row) for row in rows}), (many, {many}))
            for t, j in itertools.product(range(many), repeat=2):
                said = [rows[t - 1][i] + table[i][j] for i in range(j) if t > 0 and rows[t - 1][i] is not None]
                self.assertEqual(rows[t][j], min(said) if said else 0 if t == j == 0 else None)
                self.assertIs(rows[t][j] is None, t > j or (t == 0 and j > 0))

    def test_point_84_the_fewest_changes_of_all_choices(self):
        for stack, under, numbers in samples(840):
            cuts, rows = slow_cuts_of(stack, numbers), spare_table(stack, under, numbers)
            found = {}
            for row in choices(cuts):
                found[len(row)] = min(found.get(len(row), 10 ** 9), total(stack, under, row))
            last = [rows[t][-1] for t in range(1, len(rows))]
            self.assertEqual(last, [found[t] for t in range(1, len(rows))])
            self.assertEqual(last, sorted(last))

    def test_point_84_kept_cuts(self):
        for stack, under, numbers in samples(841):
            cuts = slow_cuts_of(stack, numbers)
            table, rows = weights(stack, under, numbers), spare_table(stack, under, numbers)
            for many in range(1, len(cuts) + 1):
                said, j = [], len(cuts)
                for t in range(many, 0, -1):
                    said.insert(0, cuts[j - 1])
                    j = min(i for i in range(j) if rows[t - 1][i] is not None and rows[t - 1][i] + table[i][j] == rows[t][j])
                told = kept_cuts(stack, under, numbers, many)
                self.assertIsInstance(told, list)
                self.assertEqual((told, j), (said, 0))
                self.assertEqual(total(stack, under, told), rows[many][-1])
            self.assertEqual(kept_cuts(stack, under, numbers, len(cuts)), cuts)
            self.assertEqual(kept_cuts(stack, under, numbers, 1), cuts[-1:])
            for many in (0, len(cuts) + 1, True, None):
                self.raised(BadLimit, [many], kept_cuts, stack, under, numbers, many)

    def test_point_84_fewest_to_drop(self):
        for stack, under, numbers in samples(842):
            cuts, rows = slow_cuts_of(stack, numbers), spare_table(stack, under, numbers)
            every = total(stack, under, numbers)
            most = every - total(stack, under, [])
            goals = sorted({-5, 0, 1, most - 1, most, *[every - row[-1] for row in rows[1:]], most // 2})
            for entries in [goal for goal in goals if goal <= most]:
                told = fewest_to_drop(stack, under, numbers, entries)
                self.assertIsInstance(told, list)
                stay = [cut for cut in cuts if cut not in told]
                self.assertEqual(told, [cut for cut in cuts if cut not in stay])
                self.assertGreaterEqual(every - total(stack, under, stay), entries)
                fewer = [row for row in choices(cuts) if len(row) > len(stay)]
                self.assertTrue(all(every - total(stack, under, row) < entries for row in fewer))
                self.assertEqual(stay, kept_cuts(stack, under, numbers, len(stay)))
            for entries in (most + 1, most + 10 ** 9):
                self.raised(TooMany, [most], fewest_to_drop, stack, under, numbers, entries)

    def test_least_indexes_are_taken(self):
        run = one_run("set", 0, 3, ((1, True, (1,)), (2, True, (2,)), (3, True, (1,))))
        self.assertEqual(spare_table([run], NO_KEYS, [1, 2])[2], [None, None, 2, 1])
        self.assertEqual(kept_cuts([run], NO_KEYS, [1, 2], 2), [1, 3])
        self.assertEqual(fewest_to_drop([run], NO_KEYS, [2, 1, 2], 1), [2])
        flat = one_run("set", 0, 4, ((1, True, (1,)),))
        self.assertEqual(kept_cuts([flat], NO_KEYS, [1, 2, 3], 3), [1, 2, 4])


if __name__ == "__main__":
    unittest.main()
