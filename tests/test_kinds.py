"""Points 2 to 7: letters, words and kinds."""

import inspect
import itertools
import unittest

from leastshelf import kinds
from leastshelf.errors import BadKind, BadWord
from leastshelf.kinds import (
    IDEMPOTENT, KIND_NAMES, check_word, fresh_word, is_plain, is_word, joined, kind_named, parted_words, plain_word,
    rest, under,
)
from samples import (
    BAD_KINDS, BAD_LETTERS, GREATEST_LETTER, KINDS, ODD_VALUES, Raising, plain, plain_words, random_word, seeded, words,
)

LONG = tuple((7 * at * at + at) % 23 for at in range(60))

UNDER = {("set", "bag"), ("set", "heads"), ("set", "tails"), ("first", "ends"), ("first", "heads"), ("last", "ends"),
         ("last", "tails")} | {(kind, kind) for kind in KINDS} | {(kind, "list") for kind in KINDS}

FIVE_PAIRS = (((1, 2), (2, 1)), ((1, 1), (1,)), ((1, 2, 3), (1, 3)), ((1, 2, 1), (1, 2)), ((1, 2, 1), (2, 1)))


class KindsTest(Raising, unittest.TestCase):
    def test_names(self):
        self.assertEqual(KIND_NAMES, ("list", "bag", "set", "first", "last", "ends", "heads", "tails"))
        self.assertEqual(IDEMPOTENT, ("set", "first", "last", "ends", "heads", "tails"))

    def test_point_3_example(self):
        told = [(4, 2, 4, 7, 2), (2, 2, 4, 4, 7), (2, 4, 7), (4,), (2,), (4, 2), (4, 2, 7), (4, 7, 2)]
        self.assertEqual([plain_word(kind, (4, 2, 4, 7, 2)) for kind in KIND_NAMES], told)
        self.assertEqual([plain_word(kind, ()) for kind in KIND_NAMES], [()] * 8)
        self.assertEqual([plain_word(kind, [5]) for kind in KIND_NAMES], [(5,)] * 5 + [(5, 5)] + [(5,)] * 2)

    def test_point_3_all_short_words(self):
        for kind in KINDS:
            some = words((0, 1, 2), 5) + words((9, 8, 64, GREATEST_LETTER), 3)
            for word in some + [LONG, LONG[::-1], (GREATEST_LETTER, 0, GREATEST_LETTER)]:
                self.assertEqual(plain_word(kind, word), plain(kind, word))
                self.assertEqual(plain_word(kind, list(word)), plain(kind, word))
                self.assertIsInstance(plain_word(kind, list(word)), tuple)

    def test_point_3_idempotent_kinds(self):
        for kind in KINDS:
            alike = all(joined(kind, word, word) == plain(kind, word) for word in plain_words(kind, (0, 1), 2))
            self.assertEqual(alike, kind in IDEMPOTENT)

    def test_letters(self):
        for letter in (0, 1, GREATEST_LETTER):
            self.assertTrue(is_word((letter,)))
        for thing in BAD_LETTERS:
            self.assertIs(is_word((thing,)), False)
            self.assertIs(is_word((3, thing, 4)), False)

    def test_is_word(self):
        self.assertIs(is_word(()), True)
        self.assertIs(is_word((1, 0, 1)), True)
        for thing in ODD_VALUES + ([], [1, 2], 5):
            self.assertIs(is_word(thing), False)

    def test_is_plain(self):
        for kind in KINDS:
            for word in words((0, 1, 2), 3):
                self.assertIs(is_plain(kind, word), plain(kind, word) == word)
                self.assertIs(is_plain(kind, plain(kind, word)), True)
            for thing in ODD_VALUES + ([], [1], (1, True), (-1,), (GREATEST_LETTER + 1,)):
                self.assertIs(is_plain(kind, thing), False)

    def test_check_word(self):
        self.assertEqual(check_word([3, 0, GREATEST_LETTER]), (3, 0, GREATEST_LETTER))
        self.assertIsInstance(check_word([]), tuple)
        self.assertEqual(check_word((1, 1)), (1, 1))

    def test_bad_words(self):
        for thing in ODD_VALUES + (0, {1: 2}, "12"):
            self.raised(BadWord, [0], check_word, thing)
            self.raised(BadWord, [0], plain_word, "bag", thing)
        for thing in BAD_LETTERS:
            for row in ((thing,), [1, 2, thing, 3], (0, thing, thing)):
                place = [at for at, entry in enumerate(row) if entry is thing][0]
                self.raised(BadWord, [place], check_word, row)
                for kind in KINDS:
                    self.raised(BadWord, [place], plain_word, kind, row)
                    self.raised(BadWord, [place + 2], joined, kind, (5, 5), [], row)

    def test_point_2_kinds_are_looked_at_first(self):
        self.bad_kinds(BadKind, kind_named)
        self.bad_kinds(BadKind, is_plain, None)
        self.bad_kinds(BadKind, plain_word, None)
        self.bad_kinds(BadKind, joined, (-1,))
        self.bad_kinds(BadKind, joined)
        self.bad_kinds(BadKind, joined, None)
        self.bad_kinds(BadKind, rest, (), ())
        self.bad_kinds(BadKind, rest, None, None)
        self.bad_kinds(BadKind, fresh_word)
        self.bad_kinds(BadKind, fresh_word, None)
        for name in BAD_KINDS:
            self.raised(BadKind, [name], under, name, "no kind either")
            self.raised(BadKind, [name], under, "list", name)
            self.raised(BadKind, [name], parted_words, name, "no kind either")
            self.raised(BadKind, [name], parted_words, "list", name)
            self.raised(BadKind, [name], parted_words, "bag", name)

    def test_point_4_joined(self):
        for kind in KINDS:
            self.assertEqual(joined(kind), ())
            for one in words((0, 1, 2), 3):
                self.assertEqual(joined(kind, one), plain(kind, one))
                for other in words((0, 1), 2):
                    told = joined(kind, list(one), other)
                    self.assertEqual(told, plain(kind, one + other))
                    self.assertEqual(told, joined(kind, plain(kind, one), plain(kind, other)))

    def test_point_4_associative(self):
        rng = seeded(4)
        for kind in KINDS:
            for _ in range(100):
                u, v, w = (plain(kind, random_word(rng, 4, 5)) for _ in range(3))
                self.assertEqual(joined(kind, u, v, w), joined(kind, joined(kind, u, v), w))
                self.assertEqual(joined(kind, u, v, w), joined(kind, u, joined(kind, v, w)))
                self.assertEqual(joined(kind, (), u), joined(kind, u, ()))
                self.assertEqual(joined(kind, (), u), u)

    def test_example(self):
        told = [joined("tails", (4, 2), [4, 7], (2,)), rest("tails", (4, 7), (7, 9, 4)), fresh_word("ends", (0, 2), (1,))]
        self.assertEqual(told, [(4, 7, 2), (9, 4), (3, 3)])


class RestTest(unittest.TestCase):
    def least_rests(self, kind, one, other, choices):
        """Returns all words t with as few letters as can be for which one.t is other."""
        found = [t for t in choices if plain(kind, one + t) == other]
        return [t for t in found if len(t) == min(len(word) for word in found)]

    def test_point_5_is_the_fewest_letters(self):
        for kind in KINDS:
            choices = plain_words(kind, (0, 1, 2), 3)
            for one, other in itertools.product(choices, repeat=2):
                found = self.least_rests(kind, one, other, choices)
                told = rest(kind, one, other)
                if kind == "ends" and found and one != other:
                    self.assertIn(other, found)
                    self.assertEqual(told, other)
                else:
                    self.assertEqual(([] if told is None else [told]), found, (kind, one, other))
                if told is not None:
                    self.assertIsInstance(told, tuple)

    def test_point_5_longer_words_under_tails_and_bag(self):
        for kind, letters in (("tails", (0, 1, 2, 3)), ("set", (64, 9, 8, 1)), ("heads", (0, 1, 2, 3))):
            choices = plain_words(kind, letters, 4)
            for one, other in itertools.product(choices, repeat=2):
                found = self.least_rests(kind, one, other, choices)
                self.assertEqual([told for told in [rest(kind, one, other)] if told is not None], found)

    def test_point_5_equal_words(self):
        for kind in KINDS:
            for word in plain_words(kind, (0, 1, 2), 3):
                self.assertEqual(rest(kind, word, word), ())

    def test_point_5_each_line(self):
        cases = {
            "list": [((1, 2), (1, 2, 2, 1), (2, 1)), ((1, 2), (2, 1, 2), None), ((), (3,), (3,)), ((1,), (), None)],
            "bag": [((1, 2), (1, 1, 2, 3), (1, 3)), ((1, 1), (1, 2), None), ((), (3, 3), (3, 3)),
                    ((1, 8), (1, 1, 8, 64, 64), (1, 64, 64))],
            "set": [((1, 3), (1, 2, 3), (2,)), ((1, 4), (1, 2), None)],
            "first": [((), (4,), (4,)), ((4,), (), None), ((4,), (5,), None)],
            "last": [((), (4,), (4,)), ((4,), (), None), ((4,), (5,), (5,))],
            "ends": [((), (4, 5), (4, 5)), ((4, 5), (4, 6), (4, 6)), ((4, 5), (5, 5), None), ((4, 4), (), None)],
            "heads": [((1, 2), (1, 2, 9), (9,)), ((1, 2), (2, 1, 9), None)],
            "tails": [((1, 2), (2, 1), (1,)), ((1, 2, 3), (2, 3, 1, 9), (1, 9)), ((1, 9), (1,), None),
                      ((1, 2), (2, 9, 1), (9, 1)), ((3, 1), (1, 2, 3), (2, 3)), ((1, 2, 3), (1, 3, 2), (2,))],
        }
        for kind, rows in cases.items():
            for one, other, told in rows:
                self.assertEqual(rest(kind, one, other), told, (kind, one, other))


class FreshTest(unittest.TestCase):
    def test_point_6(self):
        for kind in KINDS:
            for told, given in ((0, []), (0, [()]), (0, [(1, 2)]), (2, [(0,), (1, 3)]), (4, [(3, 0), (2, 1), (0,)]),
                                (1, [(0,), (GREATEST_LETTER,)]), (3, [(0, 1), (2,)])):
                self.assertEqual(fresh_word(kind, *given), plain(kind, (told,)))


class UnderTest(unittest.TestCase):
    def test_point_7_pairs(self):
        for one, other in itertools.product(KINDS, repeat=2):
            self.assertIs(under(one, other), (one, other) in UNDER)

    def test_point_7_is_what_the_pairs_say(self):
        some = words((1, 2, 3), 3)
        for one, other in itertools.product(KINDS, repeat=2):
            alike = all(plain(one, u) == plain(one, v) for u, v in itertools.product(some, repeat=2)
                        if plain(other, u) == plain(other, v))
            self.assertIs(under(one, other), alike)
            if alike:
                self.assertTrue(all(plain(one, plain(other, word)) == plain(one, word) for word in some))

    def test_point_7_parted_words(self):
        for one, other in itertools.product(KINDS, repeat=2):
            found = [pair for pair in FIVE_PAIRS if plain(other, pair[0]) == plain(other, pair[1])
                     and plain(one, pair[0]) != plain(one, pair[1])]
            if under(one, other):
                self.assertIsNone(parted_words(one, other))
            else:
                self.assertEqual(parted_words(one, other), found[0])

    def test_point_7_each_pair_is_met(self):
        met = {parted_words(one, other) for one, other in itertools.product(KINDS, repeat=2)}
        self.assertEqual(met, set(FIVE_PAIRS) | {None})


class ClassesTest(unittest.TestCase):
    BASES = {"Kind": None, "BagKind": "Kind", "SetKind": "BagKind", "HeadsKind": "Kind", "FirstKind": "HeadsKind",
             "TailsKind": "Kind", "LastKind": "TailsKind", "EndsKind": "Kind"}
    NAMES = {"Kind": "list", "BagKind": "bag", "SetKind": "set", "HeadsKind": "heads", "FirstKind": "first",
             "TailsKind": "tails", "LastKind": "last", "EndsKind": "ends"}

    def test_classes(self):
        for name, base in self.BASES.items():
            made = getattr(kinds, name)
            self.assertTrue(inspect.isclass(made))
            self.assertEqual(made.__bases__, (getattr(kinds, base),) if base else (object,))
            self.assertEqual(made.NAME, self.NAMES[name])
            self.assertIn("plain", vars(made))
        for name in ("Kind", "BagKind", "TailsKind", "LastKind", "EndsKind"):
            self.assertIn("rest_between", vars(getattr(kinds, name)))

    def test_kind_named(self):
        for name, kind in self.NAMES.items():
            one, other = kind_named(kind), kind_named(kind)
            self.assertIs(one.__class__, getattr(kinds, name))
            self.assertIsNot(one, other)

    def test_methods(self):
        for name, kind in self.NAMES.items():
            made = getattr(kinds, name)()
            for word in words((0, 1, 2), 3):
                self.assertEqual(made.plain(word), plain(kind, word))
                self.assertEqual(made.plain(list(word)), plain(kind, word))
            for one, other in itertools.product(plain_words(kind, (0, 1, 2), 3), repeat=2):
                self.assertEqual(made.rest_between(one, other), rest(kind, one, other))


if __name__ == "__main__":
    unittest.main()
