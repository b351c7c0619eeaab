"""Point 16: keys and stretches."""

import itertools
import unittest

from leastshelf.errors import BadKey, BadStretch
from leastshelf.stretches import (
    TOP, check_key, check_stretch, common_stretch, cut_at, is_key, is_stretch, lies_within,
)
from samples import ODD_VALUES, Raising

STRETCHES = list(itertools.combinations((0, 1, 2, 3, 5, 999999, 1000000), 2))
BAD_STRETCHES = ODD_VALUES + (
    (0, 0), (5, 4), (-1, 3), (0, 1000001), (1000000, 1000001), (1000000, 1000000), [0, 1], (0, 1, 2), (0,), (),
    (False, 1), (0, True), (0, 1.0), ("0", "1"), (None, 1), (0, None), ((0, 1),), 3,
)


class StretchesTest(Raising, unittest.TestCase):
    def test_top(self):
        self.assertEqual(TOP, 1000000)

    def test_keys(self):
        for key in (0, 1, 500000, 999999):
            self.assertIs(is_key(key), True)
            self.assertEqual(check_key(key), key)
        for thing in ODD_VALUES + (1000000, -1, (0,), [0], "0"):
            self.assertIs(is_key(thing), False)
            self.raised(BadKey, [thing], check_key, thing)

    def test_stretches(self):
        for stretch in STRETCHES:
            self.assertIs(is_stretch(stretch), True)
            self.assertEqual(check_stretch(stretch), stretch)
            self.assertEqual(check_stretch(stretch, 7), stretch)
        for thing in BAD_STRETCHES:
            self.assertIs(is_stretch(thing), False)
            self.raised(BadStretch, [0], check_stretch, thing)
            self.raised(BadStretch, [4], check_stretch, thing, 4)
            self.raised(BadStretch, [5], check_stretch, thing, place=5)

    def test_common_stretch_and_within(self):
        for one, other in itertools.product(STRETCHES, repeat=2):
            low, high = max(one[0], other[0]), min(one[1], other[1])
            self.assertEqual(common_stretch(one, other), (low, high) if low < high else None)
            self.assertIs(lies_within(one, other), (low, high) == one)

    def test_common_keys(self):
        self.assertEqual(common_stretch((0, 4), (2, 9)), (2, 4))
        self.assertEqual(common_stretch((2, 9), (0, 4)), (2, 4))
        self.assertEqual(common_stretch((0, 9), (3, 4)), (3, 4))
        self.assertIsNone(common_stretch((0, 4), (4, 9)))
        self.assertIsNone(common_stretch((4, 9), (0, 4)))
        self.assertEqual([lies_within(one, (2, 5)) for one in ((2, 5), (3, 4), (1, 3), (4, 6), (0, 9))],
                         [True, True, False, False, False])

    def test_cut_at(self):
        self.assertEqual(cut_at((2, 5), 3), [(2, 3), (3, 5)])
        self.assertEqual(cut_at((2, 5), 4), [(2, 4), (4, 5)])
        for border in (2, 5, 1, 6, 0, -7, 10 ** 9):
            self.assertEqual(cut_at((2, 5), border), [(2, 5)])
        self.assertEqual(cut_at((999998, 1000000), 999999), [(999998, 999999), (999999, 1000000)])
        told = cut_at((0, 2), 1)
        told.append(None)
        self.assertEqual(cut_at((0, 2), 1), [(0, 1), (1, 2)])


if __name__ == "__main__":
    unittest.main()
