"""Points 12, 13 and 14: what changes places, what is swallowed, what may be taken twice."""

import itertools
import unittest

from leastshelf.errors import BadKind
from leastshelf.swaps import (
    change_places, parting_swap, parting_word, swallowed, twice_at_once, twice_earlier, twice_later,
)
from samples import KINDS, Raising, any_effects, makes, normal_form, plain, plain_words, states

IDLE = (False, ())


def dot(kind, *row):
    """Returns u.v.w of plain words."""
    return plain(kind, [letter for word in row for letter in word])


class ChangeTest(Raising, unittest.TestCase):
    def test_point_12_makes_the_same(self):
        for kind in KINDS:
            for one, other in itertools.product(any_effects(kind, (0, 1), 2), repeat=2):
                unequal = [state for state in states(kind)
                           if makes(kind, one, makes(kind, other, state)) != makes(kind, other, makes(kind, one, state))]
                self.assertIs(change_places(kind, one, other), unequal == [], (kind, one, other))
                told = parting_swap(kind, one, other)
                self.assertEqual(told is None, unequal == [])
                if told is not None:
                    left = makes(kind, other, makes(kind, one, told))
                    self.assertNotEqual(left, makes(kind, one, makes(kind, other, told)))

    def said(self, kind, one, other):
        """Returns True if effects in normal form change places, as point 12 says it."""
        if IDLE in (one, other):
            return True
        if one[0] and other[0]:
            return one[1] == other[1]
        if one[0] or other[0]:
            s, t = (one[1], other[1]) if one[0] else (other[1], one[1])
            return self.absorbs(kind, s, t)
        return self.swap(kind, one[1], other[1])

    def absorbs(self, kind, s, t):
        """Returns True if s.t = s, for t other than ()."""
        return {
            "list": False, "bag": False, "set": set(t) <= set(s), "heads": set(t) <= set(s), "first": s != (),
            "ends": s[-1:] == t[-1:], "tails": s[len(s) - len(t):] == t and len(s) >= len(t), "last": s == t,
        }[kind]

    def swap(self, kind, s, t):
        """Returns True if s.t = t.s, for s and t other than ()."""
        some = min(len(s), len(t))
        return {
            "list": s + t == t + s, "bag": True, "set": True, "first": s == t, "ends": s == t, "last": s == t,
            "heads": s[:some] == t[:some], "tails": s[len(s) - some:] == t[len(t) - some:],
        }[kind]

    def test_point_12_as_it_is_said(self):
        for kind in KINDS:
            for one, other in itertools.product(any_effects(kind, (0, 1, 2), 2), repeat=2):
                said = self.said(kind, normal_form(kind, one), normal_form(kind, other))
                self.assertIs(change_places(kind, one, other), said)

    def test_point_12_parting_swap(self):
        self.assertEqual(parting_swap("list", (False, (1,)), (False, (2,))), ())
        self.assertEqual(parting_swap("list", (True, (1,)), (False, (2,))), ())
        self.assertIsNone(parting_swap("list", (False, (1, 1)), (False, (1,))))
        self.assertEqual(parting_swap("last", (False, (1,)), (False, (2,))), ())

    def test_kinds(self):
        self.bad_kinds(BadKind, change_places, None, None)
        self.bad_kinds(BadKind, parting_swap, None, None)


class SwallowedTest(Raising, unittest.TestCase):
    def test_point_13(self):
        for kind in KINDS:
            between = plain_words(kind, (0, 1, 2, 3), 2)
            for small, large in itertools.product(plain_words(kind, (0, 1, 2), 2), repeat=2):
                parted = [u for u in between if dot(kind, small, u, large) != dot(kind, u, large)]
                self.assertIs(swallowed(kind, small, large), parted == [], (kind, small, large))
                told = parting_word(kind, small, large)
                if not parted:
                    self.assertIsNone(told)
                    continue
                fresh = min(letter for letter in range(6) if letter not in small + large)
                self.assertEqual(told, () if kind == "last" else plain(kind, (fresh,)))
                self.assertNotEqual(dot(kind, small, told, large), dot(kind, told, large))

    def test_point_13_cases(self):
        self.assertIs(swallowed("set", (1, 2), (1, 2, 3)), True)
        self.assertIs(swallowed("set", (1, 2), (1, 3)), False)
        self.assertIs(swallowed("tails", (2, 1), (1, 2, 3)), True)
        self.assertIs(swallowed("tails", (2, 1), ()), False)
        self.assertIs(swallowed("last", (1,), (2,)), True)
        self.assertIs(swallowed("last", (1,), ()), False)
        self.assertIs(swallowed("heads", (1,), (1,)), False)
        self.assertIs(swallowed("bag", (), ()), True)
        self.assertEqual(parting_word("ends", (0, 0), (1, 2)), (3, 3))

    def test_kinds(self):
        self.bad_kinds(BadKind, swallowed, (), ())
        self.bad_kinds(BadKind, parting_word, (), ())
        self.bad_kinds(BadKind, swallowed, None, None)
        self.bad_kinds(BadKind, parting_word, None, None)


class TwiceTest(Raising, unittest.TestCase):
    def test_point_14(self):
        for kind in KINDS:
            some = plain_words(kind, (0, 1, 2), 2)
            for s in plain_words(kind, (0, 1), 2):
                pairs = list(itertools.product(some, repeat=2))
                at_once = all(dot(kind, x, s, s) == dot(kind, x, s) for x, _ in pairs)
                later = all(dot(kind, x, s, t, s) == dot(kind, x, s, t) for x, t in pairs)
                earlier = all(dot(kind, x, s, t, s) == dot(kind, x, t, s) for x, t in pairs)
                self.assertIs(twice_at_once(kind, s), at_once)
                self.assertIs(twice_later(kind, s), later)
                self.assertIs(twice_earlier(kind, s), earlier)

    def test_point_14_where_it_does_not_hold(self):
        for kind in KINDS:
            for s in plain_words(kind, (0, 1), 2)[1:]:
                t = plain(kind, (min(letter for letter in range(3) if letter not in s),))
                self.assertEqual(dot(kind, s, s) == s, twice_at_once(kind, s))
                self.assertEqual(dot(kind, s, t, s) == dot(kind, s, t), twice_later(kind, s))
                self.assertEqual(dot(kind, s, t, s) == dot(kind, t, s), twice_earlier(kind, s))

    def test_point_14_table(self):
        told = {kind: (twice_at_once(kind, (1,)), twice_later(kind, (1,)), twice_earlier(kind, (1,))) for kind in KINDS}
        self.assertEqual(told, {
            "list": (False, False, False), "bag": (False, False, False), "set": (True, True, True),
            "first": (True, True, False), "last": (True, False, True), "ends": (True, False, False),
            "heads": (True, True, False), "tails": (True, False, True),
        })
        for kind in KINDS:
            for call in (twice_at_once, twice_later, twice_earlier):
                self.assertIs(call(kind, ()), True)

    def test_kinds(self):
        for call in (twice_at_once, twice_later, twice_earlier):
            self.bad_kinds(BadKind, call, ())


if __name__ == "__main__":
    unittest.main()
