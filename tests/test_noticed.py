"""Points 68, 71, 73 and 74: where stacks part, which losses are noticed, and narrowed runs."""

import unittest

from leastshelf.effects import narrowed_effect
from leastshelf.errors import BadKind, BadMark, BadRun, OtherWindow
from leastshelf.fields import Field
from leastshelf.kinds import under as is_under
from leastshelf.leastruns import least_run
from leastshelf.noticed import narrowed_run, notices, parting_beneath
from leastshelf.overlays import key_set
from leastshelf.rows import stack_window
from leastshelf.runs import Run
from samples import KINDS, Raising, makes, plain, plain_words, seeded
from stacks import (ALL_KEYS, CELL_KEYS, NO_KEYS, one_run, random_keys, random_marks, random_run, random_stack, slow_cuts,
                    slow_ground, slow_told, slow_up_to)
from test_cuts import BAD_MARK_ROWS, BAD_MARKS
from test_leastruns import samples
from test_rows import bad_stacks

ONE_KEY = key_set([(0, 1)])


def slow_parting(kind, one, other):
    """Returns the parting state of two unequal effects, as point 8 says it."""
    if one[1] != other[1]:
        return ()
    return plain(kind, (min(letter for letter in range(99) if letter not in one[1]),))


def slow_parting_beneath(one, other, marks, under):
    """Returns the key, the cut and the state by which two stacks part, or None."""
    for key in CELL_KEYS:
        for (cut, left), (_, right) in zip(slow_told(one, marks, under, key), slow_told(other, marks, under, key)):
            if left != right:
                return (key, cut, slow_parting(one[0].kind, left, right))
    return None


def without_entry(run, key, number):
    """Returns a run without the entry with a number in the piece of a key."""
    pieces = []
    for a, b, row in run.pieces():
        pieces.append((a, b, tuple(entry for entry in row if entry[0] != number) if a <= key < b else row))
    return Run(run.kind, run.begin, run.end, run.reach(), pieces)


def all_stores(kind, under):
    """Returns stores that have words at the keys of a key set alone, one for each of some words."""
    return [Field((), [(a, b, word) for a, b, _ in under]) for word in plain_words(kind, (0, 1, 8), 2)]


class PartingTest(Raising, unittest.TestCase):
    def test_point_68_parting(self):
        rng = seeded(68)
        alike = 0
        for kind in KINDS:
            for _ in range(25):
                begin, end = rng.choice(((0, 2), (1, 4)))
                one, other = [[random_run(rng, kind, begin, end, 2) for _ in range(rng.randrange(1, 3))] for _ in range(2)]
                if rng.random() < 0.5:
                    other = [*one[:-1], without_entry(one[-1], rng.choice(CELL_KEYS), rng.randrange(begin, end) + 1)]
                marks, under = random_marks(rng, end), random_keys(rng)
                told = parting_beneath(one, other, marks, under)
                self.assertEqual(told, slow_parting_beneath(one, other, marks, under))
                self.assertEqual(parting_beneath(other, tuple(one), tuple(marks), under), told)
                alike += told is None
                if told is not None:
                    key, cut, state = told
                    made = [makes(kind, slow_up_to(stack, key, cut), state) for stack in (one, other)]
                    self.assertNotEqual(made[0], made[1])
                    self.assertTrue(under.at(key) or state == ())
        self.assertGreater(alike, 20)

    def test_a_stack_and_its_least_run_are_alike(self):
        for stack, marks, under in samples(681, ordered=True):
            self.assertIsNone(parting_beneath(stack, [least_run(stack, marks, under)], marks, under))
            self.assertIsNone(parting_beneath(stack, stack, marks, under))

    def test_the_least_key_and_the_first_cut(self):
        def run(rows):
            return Run("list", 0, 3, ALL_KEYS, [(at, at + 1, row) for at, row in enumerate(rows)])
        one, two, three = [(number, False, (number,)) for number in (1, 2, 3)]
        left, right = run([(one,), (one, three), (two,)]), run([(one,), (two, three), (one,)])
        marks = [(1, 0, 9), (2, 1, 2)]
        self.assertEqual(parting_beneath([left], [right], marks, NO_KEYS), (1, 1, ()))
        self.assertEqual(parting_beneath([left], [right], [(2, 0, 9)], NO_KEYS), (1, 2, ()))
        self.assertEqual(parting_beneath([left], [right], [], ALL_KEYS), (1, 3, ()))
        self.assertEqual(parting_beneath([run([(one,), ()])], [run([(one, (2, True, ())), (one,)])], [], NO_KEYS), (0, 3, ()))

    def test_point_73_alike_exactly_if_stores_are_made_alike(self):
        rng = seeded(73)
        found = {True: 0, False: 0}
        for kind in KINDS:
            for _ in range(25):
                one, other = [[random_run(rng, kind, 0, 2, 2) for _ in range(rng.randrange(1, 3))] for _ in range(2)]
                if rng.random() < 0.7:
                    other = [*one[:-1], without_entry(one[-1], rng.choice(CELL_KEYS), rng.randrange(1, 3))]
                marks, under = random_marks(rng, 2), random_keys(rng)
                same = True
                for store in all_stores(kind, under):
                    for key in CELL_KEYS:
                        for cut in slow_cuts(0, 2, marks, key):
                            made = []
                            for stack in (one, other):
                                left = store
                                for run in stack:
                                    left = run.applied(left, cut)
                                made.append(left.at(key))
                            same = same and made[0] == made[1]
                self.assertIs(parting_beneath(one, other, marks, under) is None, same)
                found[same] += 1
        self.assertGreater(min(found.values()), 20)

    def test_errors_in_their_order(self):
        put = [one_run("set", 0, 2, ((1, True, (1,)),))]
        for stack, place in bad_stacks():
            self.raised(BadRun, [place], parting_beneath, stack, None, None, NO_KEYS)
            self.raised(BadRun, [place], parting_beneath, put, stack, None, NO_KEYS)
        for other in (one_run("list", 0, 2, ()), one_run("set", 0, 3, ()), one_run("set", 1, 2, ())):
            self.raised(OtherWindow, None, parting_beneath, put, [other], None, NO_KEYS)
            self.raised(OtherWindow, None, parting_beneath, [other], put, None, NO_KEYS)
        late = one_run("set", 1, 2, ((2, True, (1,)),))
        self.raised(OtherWindow, None, parting_beneath, put, [late, late], [], NO_KEYS)
        self.assertEqual(parting_beneath(put, [late, one_run("set", 0, 1, ())], [(1, 0, 1)], NO_KEYS), (0, 1, ()))
        for thing in BAD_MARK_ROWS:
            self.raised(BadMark, [0], parting_beneath, put, put, thing, NO_KEYS)
        for thing in BAD_MARKS:
            self.raised(BadMark, [1], parting_beneath, put, put, [(1, 0, 1), thing, thing], NO_KEYS)

    def test_example(self):
        put, part = Run.of_batches("list", 4, [[(0, 2, True, (1,))]]), Run.of_batches("list", 4, [[(0, 2, False, (1,))]])
        self.assertEqual(parting_beneath([put], [part], [], key_set([(1, 9)])), (1, 5, (0,)))
        self.assertEqual(notices(part, [], key_set([])), [(0, 5, (), (1,), ())])


class NoticesTest(Raising, unittest.TestCase):
    def test_each_entry(self):
        rng = seeded(71)
        unnoticed = 0
        for kind in KINDS:
            for _ in range(20):
                run = random_run(rng, kind, 1, 5, 2)
                marks, under = random_marks(rng, 5), random_keys(rng)
                said = []
                for a, _, row in run.pieces():
                    for number, _, _ in row:
                        said.append(self.slow_notice(run, without_entry(run, a, number), a, marks, under))
                told = notices(run, marks, under)
                self.assertIsInstance(told, list)
                self.assertEqual(told, said)
                unnoticed += said.count(None)
        self.assertGreater(unnoticed, 20)

    def slow_notice(self, run, left, key, marks, under):
        """Returns the element of notices for a run and what is left of it."""
        for (cut, effect), (_, other) in zip(slow_told([run], marks, under, key), slow_told([left], marks, under, key)):
            if effect != other:
                state = slow_parting(run.kind, effect, other)
                return (key, cut, state, makes(run.kind, effect, state), makes(run.kind, other, state))
        return None

    def test_point_71_each_entry_of_a_least_run_is_noticed(self):
        for stack, marks, under in samples(710, ordered=True):
            least = least_run(stack, marks, under)
            told = notices(least, marks, under)
            entries = [(a, entry) for a, _, row in least.pieces() for entry in row]
            self.assertEqual(len(told), len(entries))
            for (a, (number, _, _)), (key, cut, state, due, lost) in zip(entries, told):
                self.assertEqual((key, cut), (a, number))
                self.assertNotEqual(due, lost)
                row = [(0, slow_ground(under, a))] + slow_told(stack, marks, under, a)
                place = [at for at, (cut, _) in enumerate(row) if cut == number][0]
                self.assertEqual(state, slow_parting(stack[0].kind, row[place][1], row[place - 1][1]))
                self.assertEqual(due, makes(stack[0].kind, slow_up_to(stack, a, number), state))

    def test_point_71_without_an_entry_the_parting_state_of_its_cut_is_made_another(self):
        for stack, marks, under in samples(711, 12, ordered=True):
            kind = stack[0].kind
            least = least_run(stack, marks, under)
            for a, _, row in least.pieces():
                told = [(0, slow_ground(under, a))] + slow_told(stack, marks, under, a)
                for number, _, _ in row:
                    place = [at for at, (cut, _) in enumerate(told) if cut == number][0]
                    state = slow_parting(kind, told[place][1], told[place - 1][1])
                    left = without_entry(least, a, number)
                    made = [makes(kind, run.up_to(a, number), state) for run in (least, left)]
                    self.assertNotEqual(made[0], made[1])

    def test_point_71_puts_and_stones(self):
        for stack, marks, under in samples(712, ordered=True):
            least = least_run(stack, marks, under)
            for key in CELL_KEYS:
                row = least.entries_at(key)
                told = slow_told(stack, marks, under, key)
                if row and not under.at(key):
                    self.assertTrue(row[0][1] and row[0][2] != ())
                before = slow_ground(under, key)
                for cut, effect in told:
                    stone = (cut, True, ()) in row
                    self.assertIs(stone, effect == (True, ()) and before != (True, ()))
                    before = effect

    def test_no_entries(self):
        for kind in KINDS:
            self.assertEqual(notices(Run(kind, 0, 3, key_set([(0, 9)]), []), [(1, 0, 5)], ALL_KEYS), [])
            stone = one_run(kind, 0, 2, ((1, True, ()), (2, True, ())), 4)
            word = plain(kind, (0,))
            self.assertEqual(notices(stone, [], ALL_KEYS), [None, None])
            self.assertEqual(notices(stone, [(1, 0, 9)], ALL_KEYS), [(4, 1, word, (), word), None])
            self.assertEqual(notices(stone, [(1, 0, 9)], NO_KEYS), [None, None])

    def test_bad_marks(self):
        run = one_run("set", 0, 2, ((1, True, (1,)),))
        for thing in BAD_MARK_ROWS:
            self.raised(BadMark, [0], notices, run, thing, NO_KEYS)
            self.raised(BadMark, [0], notices, Run("set", 0, 2, NO_KEYS, []), thing, NO_KEYS)
        for thing in BAD_MARKS:
            self.raised(BadMark, [1], notices, run, [(1, 0, 1), thing], NO_KEYS)

    def test_point_1_results_are_new(self):
        run, marks = one_run("set", 0, 2, ((1, True, (1,)),)), [(1, 0, 1)]
        said = [(0, 1, (), (1,), ())]
        notices(run, marks, NO_KEYS).clear()
        self.assertEqual((notices(run, marks, NO_KEYS), marks), (said, [(1, 0, 1)]))


class NarrowedTest(Raising, unittest.TestCase):
    def test_point_74_entries(self):
        rng = seeded(74)
        for wide in KINDS:
            for kind in [kind for kind in KINDS if is_under(kind, wide)]:
                run = random_run(rng, wide, 2, 6)
                told = narrowed_run(kind, run)
                self.assertIsInstance(told, Run)
                self.assertEqual((told.kind, told.begin, told.end, told.reach()), (kind, 2, 6, run.reach()))
                for key in CELL_KEYS:
                    row = [(number, *narrowed_effect(kind, (clear, word))) for number, clear, word in run.entries_at(key)]
                    self.assertEqual(told.entries_at(key), tuple(row))

    def test_point_74_told_rows_and_least_runs(self):
        rng = seeded(740)
        for wide in KINDS:
            for kind in [kind for kind in KINDS if is_under(kind, wide)]:
                for _ in range(10):
                    stack = random_stack(rng, wide, 1)
                    marks, keys = random_marks(rng, stack_window(stack)[1]), random_keys(rng)
                    told = narrowed_run(kind, stack[0])
                    for key in CELL_KEYS:
                        row = [(cut, narrowed_effect(kind, effect)) for cut, effect in slow_told(stack, marks, keys, key)]
                        self.assertEqual(slow_told([told], marks, keys, key), row)
                    least, wide_least = least_run([told], marks, keys), least_run(stack, marks, keys)
                    self.assertEqual(least, least_run([narrowed_run(kind, wide_least)], marks, keys))
                    for key in CELL_KEYS:
                        self.assertLessEqual(len(least.entries_at(key)), len(wide_least.entries_at(key)))

    def test_pieces_join(self):
        pieces = [(0, 1, ((1, True, (1, 2)),)), (1, 2, ((1, True, (2, 1)),))]
        run = Run("list", 0, 1, key_set([(0, 2)]), pieces)
        self.assertEqual(narrowed_run("set", run).pieces(), [(0, 2, ((1, True, (1, 2)),))])
        self.assertEqual(narrowed_run("list", run), run)
        part = Run("list", 0, 1, key_set([(0, 2)]), [(0, 1, ((1, False, (1, 2)),))])
        self.assertEqual(narrowed_run("last", part).pieces(), [(0, 1, ((1, True, (2,)),))])
        self.assertEqual(part.pieces(), [(0, 1, ((1, False, (1, 2)),))])

    def test_kind_comes_first(self):
        self.bad_kinds(BadKind, narrowed_run, None)
        self.bad_kinds(BadKind, narrowed_run, Run("list", 0, 1, NO_KEYS, []))


if __name__ == "__main__":
    unittest.main()
