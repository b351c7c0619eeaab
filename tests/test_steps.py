"""Points 10 and 11: steps and running rows."""

import itertools
import unittest

from leastshelf.effects import IDLE
from leastshelf.errors import BadEffect, BadKind
from leastshelf.steps import row_count, row_letters, running, step, steps_between
from samples import (
    KINDS, ODD_VALUES, Raising, any_effects, effects, makes, normal_form, plain, plain_words, seeded,
)


def then(kind, one, other):
    """Returns one then other, as point 9 says it."""
    one, other = normal_form(kind, one), normal_form(kind, other)
    return other if other[0] else normal_form(kind, (one[0], plain(kind, one[1] + other[1])))


class StepTest(Raising, unittest.TestCase):
    def test_point_10_fewest_letters(self):
        for kind in KINDS:
            choices = effects(kind, (0, 1, 2), 3)
            some = any_effects(kind, (0, 1), 2)
            for one, other in itertools.product(some, repeat=2):
                target = normal_form(kind, other)
                found = [g for g in choices if then(kind, one, g) == target]
                told = step(kind, one, other)
                if not found:
                    self.assertIsNone(told)
                    continue
                self.assertIn(told, found, (kind, one, other))
                self.assertEqual(len(told[1]), min(len(g[1]) for g in found))

    def test_point_10_as_it_is_said(self):
        for kind in KINDS:
            for one, other in itertools.product(any_effects(kind, (0, 1), 3), repeat=2):
                self.assertEqual(step(kind, one, other), self.said(kind, one, other))

    def said(self, kind, one, other):
        """Returns the step as point 10 says it; the rest is searched for."""
        one, other = normal_form(kind, one), normal_form(kind, other)
        if one == other:
            return IDLE
        rests = [t for t in plain_words(kind, (0, 1), 3) if plain(kind, one[1] + t) == other[1]]
        if rests:
            fewest = [t for t in rests if len(t) == len(rests[0])]
            t = other[1] if kind == "ends" and other[1] in fewest else fewest[0]
            if (not one[0] and not other[0]) or (one[0] and other[0] and len(t) < len(other[1])):
                return normal_form(kind, (False, t))
        return other if other[0] else None

    def test_point_10_cases(self):
        self.assertEqual(step("list", (True, (1,)), (True, (1, 2))), (False, (2,)))
        self.assertEqual(step("list", (True, ()), (True, (1, 2))), (True, (1, 2)))
        self.assertEqual(step("list", (False, (1,)), (True, (1, 2))), (True, (1, 2)))
        self.assertIsNone(step("list", (True, (1,)), (False, (1, 2))))
        self.assertEqual(step("ends", (True, (1, 2)), (True, (1, 3))), (True, (1, 3)))
        self.assertEqual(step("ends", (False, (1, 2)), (False, (1, 3))), (False, (1, 3)))
        self.assertEqual(step("last", (False, (1,)), (False, (2,))), (True, (2,)))
        self.assertEqual(step("last", (False, (2,)), (True, (2,))), IDLE)
        self.assertEqual(step("last", IDLE, (False, (2,))), (True, (2,)))
        self.assertIsNone(step("last", (False, (2,)), IDLE))
        self.assertEqual(step("tails", (True, (1, 2)), (True, (2, 1))), (False, (1,)))

    def test_kinds(self):
        self.bad_kinds(BadKind, step, None, None)


class RunningTest(Raising, unittest.TestCase):
    def sample_rows(self, kind):
        rng = seeded(11)
        some = any_effects(kind, (0, 1, 2), 2)
        return [[rng.choice(some) for _ in range(rng.randrange(6))] for _ in range(60)]

    def test_point_11_running(self):
        for kind in KINDS:
            for row in self.sample_rows(kind):
                told = running(kind, row)
                self.assertIsInstance(told, list)
                self.assertEqual(len(told), len(row))
                before = IDLE
                for effect, so_far in zip(row, told):
                    self.assertEqual(so_far, then(kind, before, effect))
                    before = so_far
                self.assertEqual(running(kind, tuple(row)), told)

    def test_point_11_steps_of_a_running_row(self):
        for kind in KINDS:
            for row in self.sample_rows(kind):
                told = running(kind, row)
                steps = steps_between(kind, told)
                self.assertNotIn(None, steps)
                self.assertEqual(running(kind, steps), told)
                self.assertLessEqual(row_letters(steps), row_letters(row))
                self.assertLessEqual(row_count(steps), row_count([normal_form(kind, effect) for effect in row]))
                for one, other in itertools.combinations(told, 2):
                    self.assertIsNotNone(step(kind, one, other))

    def test_point_11_steps_from_a_start(self):
        for kind in KINDS:
            some = any_effects(kind, (0, 1), 2)
            for row, start in zip(self.sample_rows(kind), itertools.cycle(some)):
                ahead = [start, *row][:len(row)]
                said = [step(kind, one, other) for one, other in zip(ahead, row)]
                self.assertEqual(steps_between(kind, row, start=start), said)
                self.assertEqual(steps_between(kind, tuple(row), start=IDLE), steps_between(kind, row))

    def test_point_11_no_step(self):
        row = [(False, (1,)), (False, (2,)), (False, (2, 3))]
        self.assertEqual(steps_between("list", row), [(False, (1,)), None, (False, (3,))])
        self.assertEqual(steps_between("list", row[1:], start=(True, ())), [None, (False, (3,))])
        self.assertEqual(steps_between("list", []), [])
        self.assertEqual(running("list", ()), [])

    def test_point_11_no_normal_form(self):
        self.assertEqual(running("last", [(False, (4,))]), [(True, (4,))])
        self.assertEqual(steps_between("last", [(False, (4,)), (True, (4,))]), [(True, (4,)), IDLE])
        self.assertEqual(steps_between("last", [(True, (4,))], start=(False, (4,))), [IDLE])

    def test_example(self):
        row = running("bag", [(True, (5,)), (False, (2,)), (True, ()), (False, (7,))])
        self.assertEqual(steps_between("bag", row), [(True, (5,)), (False, (2,)), (True, ()), (True, (7,))])

    def test_bad_effects(self):
        for thing in ODD_VALUES + ([False, ()], (0, ()), (True, [1]), (True, (2, 1))):
            for row in ([thing], [IDLE, (True, (1,)), thing, thing], (IDLE, thing, (True, (1,)))):
                place = [at for at, entry in enumerate(row) if entry is thing][0]
                for call in (running, steps_between):
                    self.raised(BadEffect, [place], call, "set", row)
                    self.bad_kinds(BadKind, call, row)
        for call in (running, steps_between):
            self.bad_kinds(BadKind, call, [])
        self.assertEqual(len(running("heads", [(True, (2, 1))])), 1)
        self.raised(BadEffect, [0], steps_between, "ends", [(True, (2,))], start=(True, (1, 1)))

    def test_counts(self):
        row = [(True, ()), (False, ()), (False, (1, 2, 3)), (True, (4,)), (False, (0, 0))]
        self.assertEqual((row_letters(row), row_count(row)), (6, 4))
        self.assertEqual((row_letters(tuple(row)), row_count(tuple(row))), (6, 4))
        self.assertEqual((row_letters([]), row_count([])), (0, 0))
        self.assertEqual((row_letters([None, (True, (1,)), None]), row_count([None, (True, (1,)), IDLE])), (1, 1))

    def test_returned_lists_are_new(self):
        row = [(True, (1,)), (False, (2,))]
        for call in (running, steps_between):
            told = call("list", row)
            again = list(told)
            told.append(None)
            self.assertEqual(call("list", row), again)
        self.assertEqual(row, [(True, (1,)), (False, (2,))])


class MakesTest(unittest.TestCase):
    def test_point_10_a_step_makes_the_other_effect(self):
        for kind in KINDS:
            for one, other in itertools.product(any_effects(kind, (0, 1), 2), repeat=2):
                told = step(kind, one, other)
                if told is not None:
                    for state in plain_words(kind, (0, 1, 7), 2):
                        self.assertEqual(makes(kind, told, makes(kind, one, state)), makes(kind, other, state))


if __name__ == "__main__":
    unittest.main()
