"""Points 61 and 63: entries, and their effects."""

import unittest

from leastshelf.entries import effect_up_to, is_entry
from leastshelf.errors import BadKind
from samples import BAD_LETTERS, GREATEST_LETTER, KINDS, ODD_VALUES, Raising, any_effects, normal_form, plain, seeded
from stacks import random_row, then_all


class IsEntryTest(Raising, unittest.TestCase):
    def test_effects(self):
        for kind in KINDS:
            found = 0
            for clear, word in any_effects(kind, (0, 1, 2), 2):
                fits = (clear, word) != (False, ()) and normal_form(kind, (clear, word)) == (clear, word)
                self.assertIs(is_entry(kind, 2, 5, (4, clear, word)), fits)
                found += fits
            self.assertGreater(found, 3)

    def test_words_that_are_not_plain(self):
        for kind in KINDS:
            for word in ((1,), (1, 1), (2, 1), (1, 2), (1, 2, 1), (GREATEST_LETTER,)):
                fits = plain(kind, word) == word
                self.assertIs(is_entry(kind, 0, 1, (1, True, word)), fits)
                self.assertIs(is_entry(kind, 0, 1, (1, False, word)), fits and kind != "last")

    def test_idle_and_stone(self):
        for kind in KINDS:
            self.assertIs(is_entry(kind, 0, 1, (1, True, ())), True)
            self.assertIs(is_entry(kind, 0, 1, (1, False, ())), False)

    def test_numbers(self):
        for begin, end in ((0, 1), (0, 3), (4, 5), (4, 9)):
            for number in range(-1, 12):
                self.assertIs(is_entry("list", begin, end, (number, True, (1,))), begin < number <= end)
        for number in ODD_VALUES + ((1,), "1"):
            self.assertIs(is_entry("list", 0, 5, (number, True, (1,))), False)

    def test_any_values(self):
        for thing in ODD_VALUES + ((), (1,), (1, True), (1, True, (1,), ()), [1, True, (1,)], (1, 1, (1,)), (1, 0, (1,)),
                                   (1, None, (1,)), (1, True, [1]), (1, True, 1), (1, (True, (1,))), "abc"):
            self.assertIs(is_entry("list", 0, 5, thing), False)
        for letter in BAD_LETTERS:
            self.assertIs(is_entry("list", 0, 5, (1, True, (letter,))), False)

    def test_kind_comes_first(self):
        for thing in (None, (1, True, (1,)), (9, True, (1,))):
            self.bad_kinds(BadKind, is_entry, 0, 5, thing)


class EffectUpToTest(Raising, unittest.TestCase):
    def test_point_63(self):
        rng = seeded(63)
        for kind in KINDS:
            for _ in range(60):
                row = random_row(rng, kind, 2, 8)
                for number in range(0, 11):
                    said = then_all(kind, [(clear, word) for at, clear, word in row if at <= number])
                    self.assertEqual(effect_up_to(kind, row, number), said)

    def test_no_entries(self):
        for kind in KINDS:
            self.assertEqual(effect_up_to(kind, (), 7), (False, ()))
            self.assertEqual(effect_up_to(kind, ((3, True, ()),), 2), (False, ()))
            self.assertEqual(effect_up_to(kind, ((3, True, ()),), 3), (True, ()))
            self.assertEqual(effect_up_to(kind, ((3, True, ()),), -5), (False, ()))

    def test_kind_comes_first(self):
        for row in ((), ((1, True, (1,)),)):
            self.bad_kinds(BadKind, effect_up_to, row, 1)


if __name__ == "__main__":
    unittest.main()
