"""Points 76 to 79: what goes when cuts and marks are let go."""

import itertools
import unittest

from leastshelf.dropping import changes, gone, gone_at, narrowed_marks, spans_at, without_marks
from leastshelf.errors import BadKey, BadMark, BadRun, BadStretch, NoPlace
from leastshelf.leastruns import least_run
from leastshelf.overlays import key_set
from leastshelf.runs import Run
from leastshelf.stretches import lies_within
from samples import KINDS, ODD_VALUES, TOP, Raising, plain, seeded
from stacks import (ALL_KEYS, CELL_KEYS, NO_KEYS, one_run, random_marks, random_stretch, slow_changes, slow_cuts,
                    slow_ground, slow_told, slow_window)
from test_cuts import BAD_MARK_ROWS, BAD_MARKS
from test_leastruns import samples
from test_rows import BAD_KEYS, bad_stacks

ONE_KEY = key_set([(0, 1)])
BAD_STRETCHES = ((3, 3), (4, 2), (-1, 3), (0, TOP + 1), (None, 3), (0, "x"), (True, 3), (0, 2.0), ((0, 2), None))


def slow_count(stack, marks, under, key, without=()):
    """Returns the changes at a key, without some cuts but the last one."""
    told = slow_told(stack, marks, under, key)
    left = [pair for pair in told[:-1] if pair[0] not in without] + told[-1:]
    return slow_changes(left, slow_ground(under, key))


def part_run(kind, letters, number=0):
    """Returns a run at one key whose entries are parts of these letters; the plain words of each."""
    row = [(at, kind == "last", plain(kind, (letter,))) for at, letter in enumerate(letters, number + 1)]
    return one_run(kind, number, number + len(letters), tuple(row))


class ChangesTest(Raising, unittest.TestCase):
    def test_point_76_changes(self):
        for stack, marks, under in samples(76):
            told = changes(stack, marks, under)
            self.assertEqual((told.neutral, told.neutral is False), (0, False))
            for key in CELL_KEYS:
                self.assertEqual(told.at(key), slow_count(stack, marks, under, key))

    def test_point_76_as_many_as_entries_of_the_least_run(self):
        for stack, marks, under in samples(760, ordered=True):
            least, told = least_run(stack, marks, under), changes(tuple(stack), tuple(marks), under)
            for key in CELL_KEYS:
                self.assertEqual(told.at(key), len(least.entries_at(key)))

    def test_stacks_without_least_runs_have_changes(self):
        old, new = part_run("list", (1, 1), 2), part_run("list", (2, 2, 2))
        self.assertEqual(changes([old, new], [(2, 0, 9), (3, 0, 9)], ONE_KEY).pieces(), [(0, 1, 3)])
        self.assertEqual(changes([old, new], [], NO_KEYS).pieces(), [(0, 1, 1)])

    def test_keys_without_changes(self):
        for kind in KINDS:
            self.assertEqual(changes([Run(kind, 0, 3, key_set([(0, 9)]), [])], [(1, 0, 9)], ALL_KEYS).pieces(), [])
            self.assertEqual(changes([one_run(kind, 0, 2, ((1, True, ()),))], [(1, 0, 9)], NO_KEYS).pieces(), [])
            self.assertEqual(changes([one_run(kind, 0, 2, ((1, True, ()),))], [(1, 0, 9)], ONE_KEY).pieces(), [(0, 1, 1)])

    def test_gone(self):
        rng = seeded(761)
        found = set()
        for stack, marks, under in samples(762):
            other = random_marks(rng, slow_window(stack)[1])
            for left in (marks[::2], other, []):
                told = gone(stack, marks, under, left)
                self.assertEqual(told.neutral, 0)
                for key in CELL_KEYS:
                    said = slow_count(stack, marks, under, key) - slow_count(stack, left, under, key)
                    self.assertEqual(told.at(key), said)
                    found.add(said)
            self.assertEqual(gone(stack, marks, under, marks).pieces(), [])
        self.assertTrue({-1, 0, 1, 2} <= found)

    def test_example(self):
        run = Run.of_batches("ends", 0, [[(0, 4, False, (1, 2))], [(2, 9, False, (3,))], [(0, 4, False, (5, 2))]])
        marks, under = [(1, 0, 9), (2, 0, 3)], key_set([(0, 9)])
        self.assertEqual(spans_at([run], marks, under, 2)[:2], [((False, (1, 2)), (1,)), ((False, (1, 3)), (2,))])
        self.assertEqual(gone([run], marks, under, [(1, 0, 9)]).pieces(), [(2, 3, 2)])

    def test_errors_in_their_order(self):
        stack = [one_run("set", 0, 3, ((1, True, (1,)),))]
        for thing, place in bad_stacks():
            self.raised(BadRun, [place], changes, thing, None, NO_KEYS)
            self.raised(BadRun, [place], gone, thing, None, NO_KEYS, None)
            self.raised(BadRun, [place], gone_at, thing, None, NO_KEYS, None, [])
            self.raised(BadRun, [place], spans_at, thing, None, NO_KEYS, None)
        for thing in BAD_MARK_ROWS:
            self.raised(BadMark, [0], changes, stack, thing, NO_KEYS)
            self.raised(BadMark, [0], gone, stack, thing, NO_KEYS, [None, None])
            self.raised(BadMark, [0], gone, stack, [(1, 0, 9)], NO_KEYS, thing)
            self.raised(BadMark, [0], gone_at, stack, thing, NO_KEYS, None, [])
            self.raised(BadMark, [0], spans_at, stack, thing, NO_KEYS, None)
        for thing in BAD_MARKS:
            marks = [(1, 0, 1), thing]
            self.raised(BadMark, [1], changes, stack, marks, NO_KEYS)
            self.raised(BadMark, [1], gone, stack, marks, NO_KEYS, None)
            self.raised(BadMark, [2], gone, stack, [], NO_KEYS, [(1, 0, 1), *marks])
            self.raised(BadMark, [1], gone_at, stack, marks, NO_KEYS, -1, [])
            self.raised(BadMark, [1], spans_at, stack, marks, NO_KEYS, -1)
        for key in BAD_KEYS:
            self.raised(BadKey, [key], gone_at, stack, [], NO_KEYS, key, [])
            self.raised(BadKey, [key], spans_at, stack, [], NO_KEYS, key)


class CutsTest(unittest.TestCase):
    def test_point_76_cuts_let_go(self):
        rng = seeded(77)
        for stack, marks, under in samples(770, 15):
            for key in CELL_KEYS:
                cuts = slow_cuts(*slow_window(stack), marks, key)
                for _ in range(3):
                    without = [rng.choice(cuts + [0, -3, 77]) for _ in range(rng.randrange(5))]
                    said = slow_count(stack, marks, under, key) - slow_count(stack, marks, under, key, without)
                    self.assertEqual(gone_at(stack, marks, under, key, without), said)
                    self.assertEqual(gone_at(stack, marks, under, key, tuple(without + cuts[-1:])), said)

    def test_point_76_the_last_cut_is_never_let_go(self):
        for kind in KINDS:
            run = one_run(kind, 0, 2, ((2, True, plain(kind, (1,))),))
            for cuts in ([2], [1, 2], [2, 2, 0, 5], [1, 1], []):
                self.assertEqual(gone_at([run], [(1, 0, 1)], NO_KEYS, 0, cuts), 0)
            early = one_run(kind, 0, 2, ((1, True, plain(kind, (1,))), (2, True, ())))
            self.assertEqual(gone_at([early], [(1, 0, 1)], NO_KEYS, 0, [1]), 2)
            self.assertEqual(gone_at([early], [(1, 0, 1)], ONE_KEY, 0, [1]), 1)
            self.assertEqual(gone_at([early], [(1, 1, 2)], ONE_KEY, 0, [1]), 0)

    def test_point_77_a_single_cut(self):
        found = set()
        for stack, marks, under in samples(771):
            for key in CELL_KEYS:
                told = slow_told(stack, marks, under, key)
                effects = [slow_ground(under, key)] + [effect for _, effect in told]
                for place, (cut, effect) in enumerate(told[:-1], 1):
                    before, behind = effects[place - 1], effects[place + 1]
                    said = 0 if effect in (before, behind) else 2 if before == behind else 1
                    self.assertEqual(gone_at(stack, marks, under, key, [cut]), said)
                    found.add(said)
        self.assertEqual(found, {0, 1, 2})

    def test_point_77_parts_alone_fall_by_two_only_under_tails_and_ends(self):
        for kind in KINDS:
            found = set()
            for letters in itertools.product((0, 1, 2), repeat=4):
                run = part_run(kind, letters)
                if kind != "last":
                    for under in (ONE_KEY, NO_KEYS):
                        found |= {gone_at([run], [(at, 0, 1) for at in (1, 2, 3)], under, 0, [cut]) for cut in (1, 2, 3)}
            self.assertEqual(2 in found, kind in ("tails", "ends"))

    def test_point_77_neighbouring_cuts(self):
        rng = seeded(772)
        for stack, marks, under in samples(773, 15):
            for key in CELL_KEYS:
                told = slow_told(stack, marks, under, key)
                effects = [slow_ground(under, key)] + [effect for _, effect in told]
                out = [place for place in range(1, len(told)) if rng.random() < 0.6]
                said = 0
                for first in [place for place in out if place - 1 not in out]:
                    last = first
                    while last + 1 in out:
                        last += 1
                    row = effects[first - 1:last + 2]
                    said += sum(one != other for one, other in zip(row, row[1:])) - (row[0] != row[-1])
                self.assertEqual(gone_at(stack, marks, under, key, [told[place - 1][0] for place in out]), said)

    def test_spans(self):
        for stack, marks, under in samples(78):
            for key in CELL_KEYS:
                told = slow_told(stack, marks, under, key)
                said = [(effect, tuple(cut for cut, _ in pairs)) for effect, pairs in
                        ((effect, list(pairs)) for effect, pairs in itertools.groupby(told, key=lambda pair: pair[1]))]
                spans = spans_at(stack, marks, under, key)
                self.assertIsInstance(spans, list)
                self.assertEqual(spans, said)

    def test_point_78_letting_spans_go(self):
        rng = seeded(780)
        for stack, marks, under in samples(781, 15):
            for key in CELL_KEYS:
                ground = slow_ground(under, key)
                spans = spans_at(stack, marks, under, key)
                others = [place for place, (effect, _) in enumerate(spans) if place > 0 or effect != ground]
                self.assertEqual(slow_count(stack, marks, under, key), len(others))
                stay = [rng.choice(cuts) for place, (_, cuts) in enumerate(spans) if place in others]
                out = [cut for _, cuts in spans for cut in cuts if cut not in stay]
                self.assertEqual(gone_at(stack, marks, under, key, out), 0)
                for place in others[:-1]:
                    ahead = spans[place - 1][0] if place > 0 else ground
                    said = 2 if ahead == spans[place + 1][0] else 1
                    self.assertEqual(gone_at(stack, marks, under, key, list(spans[place][1])), said)

    def test_a_single_cut_alone(self):
        for kind in KINDS:
            run = one_run(kind, 4, 5, ((5, True, plain(kind, (1,))),))
            self.assertEqual(spans_at([run], [(5, 0, 1), (4, 0, 1)], NO_KEYS, 0), [((True, plain(kind, (1,))), (5,))])
            self.assertEqual(spans_at([run], [], NO_KEYS, 1), [((True, ()), (5,))])
            self.assertEqual(spans_at([run], [], ALL_KEYS, 1), [((False, ()), (5,))])
            self.assertEqual(gone_at([run], [], NO_KEYS, 0, [5]), 0)

    def test_spans_that_return(self):
        run = part_run("ends", (1, 2, 1, 1))
        marks = [(at, 0, 1) for at in (1, 2, 3)]
        spans = spans_at([run], marks, ONE_KEY, 0)
        self.assertEqual(spans, [((False, (1, 1)), (1,)), ((False, (1, 2)), (2,)), ((False, (1, 1)), (3, 4))])
        told = [gone_at([run], marks, ONE_KEY, 0, cuts) for cuts in ([1], [2], [3], [1, 2], [2, 3], [1, 2, 3])]
        self.assertEqual(told, [1, 2, 0, 2, 2, 2])

    def test_returned_lists_are_new(self):
        run, marks, cuts = part_run("list", (1, 2)), [(1, 0, 1)], [1, 1]
        said = spans_at([run], marks, ONE_KEY, 0)
        spans_at([run], marks, ONE_KEY, 0).clear()
        gone_at([run], marks, ONE_KEY, 0, cuts)
        self.assertEqual((spans_at([run], marks, ONE_KEY, 0), marks, cuts), (said, [(1, 0, 1)], [1, 1]))


class MarksTest(Raising, unittest.TestCase):
    def test_without_marks(self):
        marks = [(1, 0, 2), (2, 3, 9), (1, 0, 2), (4, 0, TOP)]
        for many in range(5):
            for drop in itertools.permutations(range(4), many):
                said = tuple(mark for place, mark in enumerate(marks) if place not in drop)
                told = without_marks(marks, list(drop))
                self.assertIsInstance(told, tuple)
                self.assertEqual((told, without_marks(tuple(marks), drop * 2)), (said, said))
        self.assertEqual((without_marks([], []), len(marks)), ((), 4))

    def test_without_marks_errors(self):
        marks = [(1, 0, 2), (2, 3, 9)]
        for thing in BAD_MARK_ROWS:
            self.raised(BadMark, [0], without_marks, thing, [None])
        for thing in BAD_MARKS:
            self.raised(BadMark, [1], without_marks, [marks[0], thing], [5])
        for entry in ODD_VALUES + (2, -2, 3, "0", (0,), [0]):
            self.raised(NoPlace, [entry], without_marks, marks, [0, entry, 9])
            self.raised(NoPlace, [entry], without_marks, marks, (entry,))
        self.raised(NoPlace, [0], without_marks, [], [0])

    def test_narrowed_marks(self):
        marks = [(1, 0, 2), (2, 3, 9), (1, 0, TOP)]
        told = narrowed_marks(marks, 1, 4, 9)
        self.assertIsInstance(told, tuple)
        self.assertEqual(told, ((1, 0, 2), (2, 4, 9), (1, 0, TOP)))
        self.assertEqual(narrowed_marks(tuple(marks), 0, 0, 2), tuple(marks))
        self.assertEqual(narrowed_marks(marks, 2, TOP - 1, TOP), (*marks[:2], (1, TOP - 1, TOP)))
        self.assertEqual(marks, [(1, 0, 2), (2, 3, 9), (1, 0, TOP)])

    def test_narrowed_marks_errors(self):
        marks = [(1, 0, 2), (2, 3, 9), (1, 0, TOP)]
        for thing in BAD_MARK_ROWS:
            self.raised(BadMark, [0], narrowed_marks, thing, None, None, None)
        for thing in BAD_MARKS:
            self.raised(BadMark, [2], narrowed_marks, [*marks[:2], thing], 5, 3, 3)
        for place in ODD_VALUES + (3, -2, "0", (0,), [0]):
            self.raised(NoPlace, [place], narrowed_marks, marks, place, 3, 3)
        for a, b in BAD_STRETCHES:
            self.raised(BadStretch, [0], narrowed_marks, marks, 2, a, b)
        for a, b in ((2, 9), (3, 10), (0, 4), (0, 2), (9, 11), (0, TOP)):
            self.raised(BadStretch, [0], narrowed_marks, marks, 1, a, b)

    def test_point_79_a_mark_let_go(self):
        for stack, marks, under in samples(79, 15):
            for place, (number, a, b) in enumerate(marks):
                left = without_marks(marks, [place])
                told = gone(stack, marks, under, left)
                for key in CELL_KEYS:
                    said = 0
                    if a <= key < b and not any(c == number and low <= key < high for c, low, high in left):
                        said = gone_at(stack, marks, under, key, [number])
                    self.assertEqual(told.at(key), said)

    def test_point_79_a_mark_narrowed(self):
        rng = seeded(790)
        for stack, marks, under in samples(791, 15):
            for place, (number, a, b) in enumerate(marks):
                stretch = rng.choice([random_stretch(rng) for _ in range(20)] + [(a, b)])
                if not lies_within(stretch, (a, b)):
                    continue
                left = narrowed_marks(marks, place, *stretch)
                others = [mark for at, mark in enumerate(marks) if at != place]
                told = gone(stack, marks, under, left)
                for key in CELL_KEYS:
                    said = 0
                    lost = a <= key < b and not stretch[0] <= key < stretch[1]
                    if lost and not any(c == number and low <= key < high for c, low, high in others):
                        said = gone_at(stack, marks, under, key, [number])
                    self.assertEqual(told.at(key), said)

    def test_point_79_one_by_one(self):
        rng = seeded(792)
        for stack, marks, under in samples(793, 15, ordered=True):
            least, left = least_run(stack, marks, under), marks
            while left:
                place = rng.randrange(len(left))
                number, a, b = left[place]
                if rng.random() < 0.4 and b - a > 1 and b < TOP:
                    left = narrowed_marks(left, place, a, b - 1)
                else:
                    left = without_marks(left, [place])
                least = least_run([least], left, under)
                self.assertEqual(least, least_run(stack, left, under))

    def test_marks_of_one_number_over_one_another(self):
        run = part_run("set", (1, 2, 3))
        marks = [(1, 0, 1), (1, 0, 9), (2, 0, 1)]
        self.assertEqual(gone([run], marks, ONE_KEY, without_marks(marks, [0])).pieces(), [])
        self.assertEqual(gone([run], marks, ONE_KEY, without_marks(marks, [1])).pieces(), [])
        self.assertEqual(gone([run], marks, ONE_KEY, without_marks(marks, [0, 1])).pieces(), [(0, 1, 1)])
        self.assertEqual(gone([run], marks, ONE_KEY, without_marks(marks, [0, 1, 2])).pieces(), [(0, 1, 2)])


if __name__ == "__main__":
    unittest.main()
