"""Points 18 and 20 to 22: borders, gaps, overlays and key sets."""

import inspect
import unittest

from leastshelf import overlays
from leastshelf.errors import BadStretch
from leastshelf.fields import Field
from leastshelf.overlays import (
    borders, common, gaps, key_set, meeting, overlay, union, unlike, without,
)
from samples import TOP, Raising, random_pieces, sample_keys, seeded
from test_fields import MIXTURES
from test_stretches import BAD_STRETCHES


def sample_fields(seed, rows=60, most=4):
    """Yields rows of fields of several mixtures, some without pieces."""
    rng = seeded(seed)
    for _ in range(rows):
        row = []
        for _ in range(rng.randrange(most + 1)):
            things = rng.choice(MIXTURES)
            row.append(Field(things[0], random_pieces(rng, things, rng.choice((0, 5, 14)))))
        yield row


def sample_sets(seed, rows=80):
    """Yields pairs of key sets."""
    rng = seeded(seed)
    for _ in range(rows):
        yield [key_set([(a, b) for a, b, flag in random_pieces(rng, (True, False), 12) if flag]) for _ in range(2)]


class GapsTest(Raising, unittest.TestCase):
    def test_point_20_borders(self):
        for fields in sample_fields(20):
            ends = {end for field in fields for piece in field.pieces() for end in piece[:2]}
            self.assertEqual(borders(fields), sorted(ends))
            self.assertEqual(borders(tuple(fields)), sorted(ends))
        self.assertEqual(borders([]), [])
        self.assertEqual(borders([Field(())]), [])
        self.assertEqual(borders([Field(0, [(5, TOP, 1)]), Field((), [(2, 5, (1,)), (7, 8, (1,))])]), [2, 5, 7, 8, TOP])

    def test_point_20_gaps(self):
        for fields in sample_fields(21):
            told = list(gaps(fields))
            self.assertEqual(list(gaps(tuple(fields))), told)
            ends = borders(fields)
            self.assertEqual([(a, b) for a, b, _ in told], list(zip(ends, ends[1:])))
            for a, b, things in told:
                self.assertIsInstance(things, tuple)
                for key in (a, b - 1, (a + b) // 2):
                    self.assertEqual(things, tuple(field.at(key) for field in fields))
            outside = [key for key in sample_keys(*fields) if not any(a <= key < b for a, b, _ in told)]
            for key in outside:
                self.assertTrue(all(field.at(key) == field.neutral for field in fields))

    def test_point_20_gaps_without_things(self):
        one, other = Field((), [(0, 1, (4,))]), Field(False, [(3, 5, True)])
        told = [(0, 1, ((4,), False)), (1, 3, ((), False)), (3, 5, ((), True))]
        self.assertEqual(list(gaps([one, other])), told)
        self.assertEqual(list(gaps([other, one])), [(a, b, things[::-1]) for a, b, things in told])
        self.assertEqual(list(gaps([])), [])
        self.assertEqual(list(gaps([Field(0), Field(1)])), [])

    def test_gaps_is_a_generator(self):
        self.assertTrue(inspect.isgeneratorfunction(overlays.gaps))
        self.assertTrue(inspect.isgenerator(gaps([])))


class OverlayTest(Raising, unittest.TestCase):
    def test_point_21(self):
        for fields in sample_fields(22):
            neutral = tuple(field.neutral for field in fields)
            numbers = {neutral: 0}
            for act, none in ((lambda things: things, neutral),
                              (lambda things: numbers.setdefault(things, len(numbers)), 0),
                              (lambda things: things != neutral, False)):
                told = overlay(fields, act, neutral=none)
                self.assertIsInstance(told, Field)
                self.assertEqual(told.neutral, none)
                for key in sample_keys(*fields):
                    self.assertEqual(told.at(key), act(tuple(field.at(key) for field in fields)))

    def test_point_21_no_fields(self):
        told = overlay([], lambda things: (3,), neutral=(3,))
        self.assertEqual((told.pieces(), told.neutral), ([], (3,)))

    def test_point_21_one_form(self):
        one, other = Field(0, [(0, 4, 1), (4, 6, 2)]), Field(0, [(2, 5, 1)])
        self.assertEqual(overlay([one, other], lambda things: min(things), neutral=0).pieces(), [(2, 5, 1)])
        self.assertEqual(overlay((one,), lambda things: min(things[0], 1), neutral=0).pieces(), [(0, 6, 1)])

    def test_point_18_unlike(self):
        rng = seeded(18)
        for things in MIXTURES:
            for _ in range(80):
                one = Field(things[0], random_pieces(rng, things[:3], 8))
                other = rng.choice((one, Field(things[0], random_pieces(rng, things[:3], 8)))).painted(
                    rng.randrange(9), rng.choice((10, 11, TOP)), rng.choice(things))
                parted = [key for key in sample_keys(one, other) if one.at(key) != other.at(key)]
                told = unlike(one, other)
                if not parted:
                    self.assertIsNone(told)
                    self.assertTrue(one == other)
                else:
                    self.assertEqual(told, (parted[0], one.at(parted[0]), other.at(parted[0])))
                    self.assertIsInstance(told, tuple)
                    self.assertEqual(unlike(other, one), (told[0], told[2], told[1]))

    def test_point_18_unlike_cases(self):
        field = Field((), [(2, 4, (1,)), (4, 6, (2,)), (8, 9, (1,))])
        for pieces, told in (
                ([(2, 4, (1,)), (4, 6, (2,)), (8, 9, (1,))], None),
                ([], (2, (1,), ())),
                ([(3, 4, (1,)), (4, 6, (2,)), (8, 9, (1,))], (2, (1,), ())),
                ([(0, 4, (1,)), (4, 6, (2,)), (8, 9, (1,))], (0, (), (1,))),
                ([(2, 3, (1,)), (4, 6, (2,)), (8, 9, (1,))], (3, (1,), ())),
                ([(2, 6, (1,)), (8, 9, (1,))], (4, (2,), (1,))),
                ([(2, 4, (1,)), (4, 6, (2,))], (8, (1,), ())),
                ([(2, 4, (1,)), (4, 6, (2,)), (8, 9, (1,)), (9, 10, (2,))], (9, (), (2,))),
                ([(2, 4, (1,)), (4, 6, (2,)), (8, TOP, (1,))], (9, (), (1,)))):
            self.assertEqual(unlike(field, Field((), pieces)), told)
        self.assertIsNone(unlike(Field(()), Field(())))


class KeySetTest(Raising, unittest.TestCase):
    def keys(self, flags, top=30):
        """Returns the keys below top, and the greatest key, that a key set has."""
        return {key for key in (*range(top), TOP - 1) if flags.at(key)}

    def test_point_22_key_set(self):
        rng = seeded(22)
        for _ in range(100):
            row = []
            for _ in range(rng.randrange(7)):
                a = rng.randrange(14)
                row.append((a, rng.choice((a + 1, a + 2, a + 6, TOP))))
            told = key_set(row)
            self.assertEqual((told.neutral, key_set(tuple(row))), (False, told))
            keys = {key for key in (*range(30), TOP - 1) if any(a <= key < b for a, b in row)}
            self.assertEqual(self.keys(told), keys)
            self.assertTrue(all(thing is True for _, _, thing in told))

    def test_point_22_key_set_is_in_one_form(self):
        self.assertEqual(key_set([(5, 7), (0, 2), (2, 3), (6, 9), (6, 7)]).pieces(), [(0, 3, True), (5, 9, True)])
        self.assertEqual(key_set([(0, TOP), (3, 4), (0, 1)]).pieces(), [(0, TOP, True)])
        self.assertEqual(key_set([]), Field(False))

    def test_bad_stretches(self):
        for thing in BAD_STRETCHES:
            for row in ([thing], [(0, 1), (0, 1), thing, thing], ((5, 6), thing, (1, 2))):
                place = [at for at, entry in enumerate(row) if entry is thing][0]
                self.raised(BadStretch, [place], key_set, row)

    def test_point_22_two_key_sets(self):
        for one, other in sample_sets(23):
            left, right = self.keys(one), self.keys(other)
            self.assertEqual(self.keys(union(one, other)), left | right)
            self.assertEqual(self.keys(common(one, other)), left & right)
            self.assertEqual(self.keys(without(one, other)), left - right)
            self.assertEqual(self.keys(without(other, one)), right - left)
            self.assertEqual(meeting(one, other), min(left & right, default=None))
            for told in (union(one, other), common(one, other), without(one, other)):
                self.assertIsInstance(told, Field)
                self.assertIs(told.neutral, False)
                self.assertTrue(all(thing is True for _, _, thing in told))
            self.assertIsNone(meeting(without(one, other), common(one, other)))
            self.assertEqual(union(without(one, other), common(one, other)), one)

    def test_point_22_edges(self):
        everything, nothing, last = key_set([(0, TOP)]), key_set([]), key_set([(999999, TOP)])
        self.assertEqual(without(everything, last).pieces(), [(0, 999999, True)])
        self.assertEqual(union(nothing, last), last)
        self.assertEqual(common(nothing, everything), nothing)
        self.assertEqual((meeting(everything, last), meeting(last, everything)), (999999, 999999))
        self.assertEqual((meeting(everything, everything), meeting(everything, nothing)), (0, None))


class NewListsTest(unittest.TestCase):
    def test_point_1_lists_are_new(self):
        fields = [Field((), [(0, 2, (1,))])]
        told = borders(fields)
        told.append(5)
        self.assertEqual(borders(fields), [0, 2])
        row = [(0, 2)]
        keys = key_set(row)
        row.append((5, 6))
        self.assertEqual(keys.pieces(), [(0, 2, True)])
        union(keys, key_set([(2, 4)]))
        self.assertEqual(keys.pieces(), [(0, 2, True)])


if __name__ == "__main__":
    unittest.main()
