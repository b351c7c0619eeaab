"""Points 129 to 131: the sizes of spans of told spills, and plans that are played on them."""

import unittest

from leastshelf.errors import BadMark, BadPlan, BadRun
from leastshelf.leastruns import least_run, whole_counts
from leastshelf.overlays import key_set
from leastshelf.plans import Plan
from leastshelf.prices import PriceTable
from leastshelf.runs import Run
from leastshelf.sizes import added_sizes, played, spill_sizes
from samples import KINDS, ODD_VALUES, TOP, Raising, normal_form, plain, seeded
from stacks import NO_KEYS, one_run, random_keys, random_marks, random_run
from test_cuts import BAD_MARK_ROWS, BAD_MARKS
from test_plans import random_plan


def told_spills(rng, kind, many, letters=2, clears=0.4):
    """Returns so many told spills; their windows may leave numbers out."""
    out, end = [], rng.randrange(3)
    for _ in range(many):
        begin = end + rng.choice((0, 0, 1))
        end = begin + rng.choice((1, 2, 3))
        out.append(random_run(rng, kind, begin, end, letters, 0.6, clears))
    return out


def samples(number, many=12, longest=5):
    """Yields told spills, marks and a key set or None."""
    rng = seeded(number)
    for kind in KINDS:
        for at in range(many):
            spills = told_spills(rng, kind, rng.randrange(longest + 1))
            top = max([run.end for run in spills], default=0)
            marks = random_marks(rng, top, 4) if at % 4 else []
            yield spills, rng.choice((marks, tuple(marks))), random_keys(rng) if at % 3 else None


def keys_under(spills, i, beneath):
    """Returns the key set of the keys of beneath and of the reaches of the first i spills."""
    stretches = [(a, b) for a, b, _ in beneath or []]
    return key_set(stretches + [(a, b) for run in spills[:i] for a, b, _ in run.reach()])


def slow_sizes(spills, marks=(), beneath=None):
    """Returns the size table, as point 129 says it."""
    many = len(spills)
    return [[whole_counts(least_run(spills[i:j], marks, keys_under(spills, i, beneath)))[0] for j in range(i + 1, many + 1)]
            for i in range(many)]


class SizesTest(Raising, unittest.TestCase):
    def test_point_129(self):
        for spills, marks, beneath in samples(129):
            told = spill_sizes(spills, marks=marks, beneath=beneath)
            self.assertEqual(told, slow_sizes(spills, marks, beneath))
            self.assertTrue(isinstance(told, list) and all(isinstance(row, list) for row in told))
            self.assertEqual(spill_sizes(tuple(spills), marks=marks, beneath=beneath), told)
            self.assertEqual(spill_sizes(spills), slow_sizes(spills))
            self.assertEqual(spill_sizes(spills, beneath=beneath), slow_sizes(spills, (), beneath))

    def test_few_spills(self):
        self.assertEqual((spill_sizes([]), spill_sizes((), marks=[(1, 0, 2)], beneath=key_set([(0, 9)])), added_sizes([])), ([], [], []))
        for kind in KINDS:
            put = one_run(kind, 3, 4, ((4, True, plain(kind, (1,))),), TOP - 1)
            stone = one_run(kind, 3, 4, ((4, True, ()),))
            self.assertEqual((spill_sizes([put]), spill_sizes([stone]), spill_sizes([stone], beneath=key_set([(0, 1)]))), ([[1]], [[0]], [[1]]))
            self.assertRaises(TypeError, spill_sizes, [put], [])

    def test_marks_between_windows_and_at_their_ends(self):
        for kind in KINDS:
            words = [plain(kind, (letter,)) for letter in (1, 2, 3)]
            spills = [one_run(kind, begin, begin + 2, ((begin + 1, True, words[0]), (begin + 2, True, words[1]))) for begin in (1, 4, 6)]
            for number in range(10):
                marks = [(number, 0, 5), (number, 0, 1)]
                self.assertEqual(spill_sizes(spills, marks=marks), slow_sizes(spills, marks))
            for number, said in ((2, [2, 2, 2]), (3, [1, 1, 1]), (4, [1, 1, 1]), (5, [1, 2, 2]), (7, [1, 1, 2])):
                self.assertEqual(spill_sizes(spills, marks=[(number, 0, 1)])[0], said)

    def test_point_131_added_sizes(self):
        for spills, marks, beneath in samples(131):
            sizes, fewest = slow_sizes(spills, marks, beneath), slow_sizes(spills)
            told = added_sizes(spills, marks=marks, beneath=beneath)
            self.assertEqual(told, [[one - other for one, other in zip(*rows)] for rows in zip(sizes, fewest)])
            self.assertTrue(all(size >= 0 for row in told for size in row))
            self.assertEqual(added_sizes(spills), [[0] * len(row) for row in fewest])
            self.assertEqual(added_sizes(tuple(spills), beneath=beneath), [[one - other for one, other in zip(*rows)] for rows in
                                                                           zip(slow_sizes(spills, (), beneath), fewest)])

    def test_point_131_no_size_falls(self):
        rng = seeded(1310)
        for spills, marks, beneath in samples(1311, 8):
            more = list(marks) + random_marks(rng, 9, 2)
            wide = keys_under([random_run(rng, "set", 0, 1)], 1, beneath)
            sizes = spill_sizes(spills, marks=marks, beneath=beneath)
            for other in (spill_sizes(spills, marks=more, beneath=beneath), spill_sizes(spills, marks=marks, beneath=wide)):
                self.assertTrue(all(one <= two for rows in zip(sizes, other) for one, two in zip(*rows)))
                for height in (1, 2):
                    self.assertLessEqual(PriceTable(sizes, height).least, PriceTable(other, height).least)

    def test_point_131_least_prices(self):
        for spills, marks, beneath in samples(1312, 10):
            sizes, fewest = spill_sizes(spills, marks=marks, beneath=beneath), spill_sizes(spills)
            added = added_sizes(spills, marks=marks, beneath=beneath)
            for height in (1, 2, 3):
                one, other = PriceTable(sizes, height), PriceTable(fewest, height)
                more = one.least - other.least
                self.assertLessEqual(one.cheapest().price(added), more)
                self.assertLessEqual(more, other.cheapest().price(added))

    def test_point_131_spans_within_spans(self):
        rng = seeded(1313)
        for kind in KINDS:
            for _ in range(10):
                spills = [without_stones(run) for run in told_spills(rng, kind, 4)]
                self.grows(spill_sizes(spills))
                if kind in ("list", "bag"):
                    parts = told_spills(rng, kind, 4, 2, 0)
                    self.grows(spill_sizes(parts, marks=random_marks(rng, 9), beneath=random_keys(rng)))
        put, stone = one_run("set", 0, 1, ((1, True, (1,)),)), one_run("set", 1, 2, ((2, True, ()),))
        self.assertEqual(spill_sizes([put, stone]), [[1, 0], [1]])

    def grows(self, sizes):
        """The size of each span is at least that of each span within it."""
        many = len(sizes)
        for i in range(many):
            for j in range(i + 1, many + 1):
                for k in range(i, j):
                    for m in range(k + 1, j + 1):
                        self.assertLessEqual(sizes[k][m - k - 1], sizes[i][j - i - 1])

    def test_example(self):
        first = Run.of_batches("set", 0, [[(0, 2, True, (5,))]])
        second = Run.of_batches("set", 1, [[(1, 3, True, ())]])
        spills, below = [first, second, Run.of_batches("set", 2, [[(0, 1, False, (7,))]])], key_set([(2, 3)])
        self.assertEqual([spill_sizes(spills), spill_sizes(spills, beneath=below), added_sizes(spills, marks=[(1, 0, 2)])],
                         [[[2, 1, 1], [1, 2], [1]], [[2, 2, 2], [2, 3], [1]], [[0, 2, 3], [0, 0], [0]]])

    def test_errors_in_their_order(self):
        put, other = one_run("set", 0, 2, ((1, True, (1,)),)), one_run("list", 2, 3, ((3, True, (1,)),))
        late, early = one_run("set", 2, 3, ()), one_run("set", 1, 3, ())
        calls = (spill_sizes, added_sizes, lambda *rest, **more: played(Plan([]), *rest, **more))
        for call in calls:
            for thing in (other, early, put):
                self.raised(BadRun, [1], call, [put, thing, early, None], marks=None)
                self.raised(BadRun, [2], call, (put, late, thing), marks=None)
            for thing in ODD_VALUES + ([put],):
                self.raised(BadRun, [0], call, [thing, put], marks=None)
                self.raised(BadRun, [2], call, [put, late, thing], marks=None)
            for thing in BAD_MARK_ROWS:
                self.raised(BadMark, [0], call, [put, late], marks=thing)
                self.raised(BadMark, [0], call, [], marks=thing)
            for thing in BAD_MARKS:
                self.raised(BadMark, [1], call, [put, late], marks=[(1, 0, 2), thing])

    def test_point_1_arguments_and_results(self):
        spills = [one_run("set", 0, 1, ((1, True, (1,)),)), one_run("set", 1, 2, ((2, False, (2,)),))]
        marks, runs = [(1, 0, 2)], list(spills)
        for call in (spill_sizes, added_sizes):
            said = call(spills, marks=marks)
            call(spills, marks=marks)[0].clear()
            self.assertEqual((call(spills, marks=marks), spills, marks), (said, runs, [(1, 0, 2)]))


def without_stones(run):
    """Returns the run with puts in the places of stones."""
    word = plain(run.kind, (9,))
    pieces = [(a, b, tuple(entry if entry[1:] != (True, ()) else (entry[0], True, word) for entry in row)) for a, b, row in run.pieces()]
    return Run(run.kind, run.begin, run.end, run.reach(), pieces)


class PlayedTest(Raising, unittest.TestCase):
    def test_point_130(self):
        rng = seeded(130)
        poured = 0
        for spills, marks, beneath in samples(1300, 15):
            rows, _ = random_plan(rng, len(spills), 0.6)
            plan = Plan(rows)
            told = played(plan, rng.choice((spills, tuple(spills))), marks=marks, beneath=beneath)
            self.assertTrue(isinstance(told, tuple) and all(isinstance(part, list) for part in told))
            runs, counts = told
            sizes = slow_sizes(spills, marks, beneath)
            self.assertEqual(counts, [sizes[i][j - i - 1] for i, j in plan.outcomes()])
            self.assertEqual(plan.price(sizes), sum(counts))
            standing = plan.standing(len(plan) - 1) if len(plan) else []
            said = [least_run(spills[i:j], marks, keys_under(spills, i, beneath)) if (i, j) in plan.outcomes() else spills[i]
                    for i, j in standing]
            self.assertEqual(runs, said)
            poured += len(counts)
        self.assertGreater(poured, 80)

    def test_spills_that_are_not_poured_stand_as_they_were_told(self):
        for kind in KINDS:
            part = normal_form(kind, (False, plain(kind, (1,))))
            spills = [one_run(kind, at, at + 1, ((at + 1, *part),)) for at in range(3)]
            self.assertEqual(played(Plan([[], [], []]), spills), (spills, []))
            runs, counts = played(Plan([[], [(0, 2)], []]), spills)
            self.assertEqual((runs[1], len(runs), counts), (spills[2], 2, [1]))
        self.assertEqual((played(Plan([]), []), played(Plan([]), (), marks=(), beneath=NO_KEYS)), (([], []), ([], [])))

    def test_errors(self):
        spills = [one_run("set", 0, 1, ()), one_run("set", 1, 2, ())]
        for rows in ([], [[]], [[], [], []]):
            self.raised(BadPlan, [2], played, Plan(rows), spills)
            self.raised(BadMark, [0], played, Plan(rows), spills, marks=None)
            self.raised(BadRun, [1], played, Plan(rows), spills[:1] * 2, marks=None)
        self.raised(BadPlan, [0], played, Plan([[]]), [])
        self.assertRaises(TypeError, played, Plan([[], []]), spills, [])

    def test_point_1_arguments_and_results(self):
        spills = [one_run("set", 0, 1, ((1, True, (1,)),)), one_run("set", 1, 2, ((2, False, (2,)),))]
        plan, runs = Plan([[], [(0, 2)]]), list(spills)
        for part in played(plan, spills):
            part.clear()
        told = played(plan, spills)
        self.assertEqual((len(told[0]), told[1], spills, plan), (1, [1], runs, Plan([[], [(0, 2)]])))


if __name__ == "__main__":
    unittest.main()
