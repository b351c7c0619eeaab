"""Points 8, 9 and 15: effects, one then another, and narrowed effects."""

import itertools
import unittest

from leastshelf import effects as module
from leastshelf.effects import (
    IDLE, STONE, effect_on, is_effect, narrowed_effect, normal, parting_state, then,
)
from leastshelf.errors import BadKind
from leastshelf.kinds import under
from leastshelf.steps import row_letters, step
from samples import (
    KINDS, ODD_VALUES, Raising, any_effects, effects, makes, normal_form, plain, plain_words, states, words,
)


class EffectsTest(Raising, unittest.TestCase):
    def test_constants(self):
        self.assertEqual((IDLE, STONE), ((False, ()), (True, ())))
        self.assertIs(IDLE[0], False)
        self.assertIs(STONE[0], True)

    def test_point_8_is_effect(self):
        for kind in KINDS:
            for word in words((0, 1, 2), 3):
                for clear in (True, False):
                    self.assertIs(is_effect(kind, (clear, word)), plain(kind, word) == word)
            odd = [(1, ()), (0, ()), (None, ()), (True,), (True, (), ()), [True, ()], (True, []), (False, [1]), ((), True),
                   (True, (True,)), (False, (-1,)), (False, (10 ** 9,)), (), (False, None)]
            for thing in odd + list(ODD_VALUES):
                self.assertIs(is_effect(kind, thing), False)

    def test_point_8_normal_form(self):
        for kind in KINDS:
            for effect in any_effects(kind, (0, 1), 3):
                told = normal(kind, effect)
                self.assertEqual(told, normal_form(kind, effect))
                self.assertIsInstance(told[0], bool)
                self.assertEqual(then(kind, effect), told)
        self.assertEqual(normal("last", (False, (5,))), (True, (5,)))
        self.assertEqual(normal("last", (False, ())), IDLE)
        self.assertEqual(normal("first", (False, (5,))), (False, (5,)))

    def test_point_8_effect_on(self):
        for kind in KINDS:
            for effect, state in itertools.product(any_effects(kind, (0, 1, 2), 2), plain_words(kind, (0, 1, 2), 2)):
                told = effect_on(kind, effect, state)
                self.assertEqual(told, makes(kind, effect, state))
                self.assertIsInstance(told, tuple)
        self.assertEqual(effect_on("list", (False, (2,)), (1,)), (1, 2))
        self.assertEqual(effect_on("list", (True, (2,)), (1,)), (2,))
        self.assertEqual(effect_on("bag", (True, ()), (1,)), ())

    def test_point_9_then_makes_what_both_make(self):
        for kind in KINDS:
            some = any_effects(kind, (0, 1), 2)
            for one, other in itertools.product(some, repeat=2):
                told = then(kind, one, other)
                self.assertEqual(told, normal_form(kind, told))
                self.assertTrue(is_effect(kind, told))
                for state in states(kind):
                    self.assertEqual(makes(kind, told, state), makes(kind, other, makes(kind, one, state)))

    def test_point_9_then_as_it_is_said(self):
        for kind in KINDS:
            for one, other in itertools.product(effects(kind, (0, 1), 2), repeat=2):
                said = other if other[0] else normal_form(kind, (one[0], plain(kind, one[1] + other[1])))
                self.assertEqual(then(kind, one, other), said)

    def test_point_9_associative_and_idle(self):
        for kind in KINDS:
            some = any_effects(kind, (0, 1), 1)
            for one, two, three in itertools.product(some, repeat=3):
                told = then(kind, one, two, three)
                self.assertEqual(told, then(kind, then(kind, one, two), three))
                self.assertEqual(told, then(kind, one, then(kind, two, three)))
                self.assertEqual(then(kind, one, *[IDLE] * 3), normal(kind, one))
                self.assertEqual(then(kind, IDLE, one), normal(kind, one))
            self.assertEqual(then(kind), IDLE)
            self.assertEqual(then(kind, IDLE, IDLE), IDLE)

    def test_point_9_parting_state(self):
        for kind in KINDS:
            for one, other in itertools.product(any_effects(kind, (0, 1), 2), repeat=2):
                left, right = normal_form(kind, one), normal_form(kind, other)
                told = parting_state(kind, one, other)
                unequal = [state for state in states(kind) if makes(kind, one, state) != makes(kind, other, state)]
                if left == right:
                    self.assertIsNone(told)
                    self.assertEqual(unequal, [])
                    continue
                fresh = min(letter for letter in range(4) if letter not in left[1])
                self.assertEqual(told, () if left[1] != right[1] else plain(kind, (fresh,)))
                self.assertNotEqual(makes(kind, one, told), makes(kind, other, told))

    def test_point_15_narrowed(self):
        for fine, coarse in itertools.product(KINDS, repeat=2):
            if not under(fine, coarse):
                continue
            for one in any_effects(coarse, (0, 1, 2), 3):
                told = narrowed_effect(fine, one)
                self.assertEqual(told, normal_form(fine, (one[0], plain(fine, one[1]))))
                for state in plain_words(coarse, (0, 1), 2):
                    made = plain(fine, makes(coarse, one, state))
                    self.assertEqual(made, makes(fine, told, plain(fine, state)))

    def test_point_15_then_and_steps(self):
        for fine, coarse in itertools.product(KINDS, repeat=2):
            if not under(fine, coarse):
                continue
            for one, other in itertools.product(any_effects(coarse, (0, 1), 2), repeat=2):
                left, right = narrowed_effect(fine, one), narrowed_effect(fine, other)
                self.assertEqual(narrowed_effect(fine, then(coarse, one, other)), then(fine, left, right))
                first = step(coarse, one, other)
                if first is not None:
                    second = step(fine, left, right)
                    self.assertLessEqual(row_letters([second]), row_letters([narrowed_effect(fine, first)]))

    def test_point_2_kinds_are_looked_at_first(self):
        self.bad_kinds(BadKind, is_effect, None)
        self.bad_kinds(BadKind, normal, None)
        self.bad_kinds(BadKind, then)
        self.bad_kinds(BadKind, then, None)
        self.bad_kinds(BadKind, effect_on, IDLE, None)
        self.bad_kinds(BadKind, effect_on, None, None)
        self.bad_kinds(BadKind, parting_state, None, None)
        self.bad_kinds(BadKind, narrowed_effect, None)

    def test_returned_words_are_plain(self):
        self.assertEqual(then("bag", (True, (2,)), (False, (1,))), (True, (1, 2)))
        self.assertEqual(then("ends", (False, (1, 2)), (False, (3, 4))), (False, (1, 4)))
        self.assertEqual(then("last", (False, (1,)), (False, (3,))), (True, (3,)))
        self.assertEqual(then("last", (False, (1,)), (True, ())), STONE)
        self.assertEqual(then("tails", (True, (1, 2)), (False, (1,))), (True, (2, 1)))
        self.assertEqual(module.IDLE, then("heads"))


if __name__ == "__main__":
    unittest.main()
