"""Points 127 and 128: plans that write no spill often, and spills that are all unlike."""

import functools
import math
import unittest

from leastshelf.errors import TooMany
from leastshelf.plans import Plan, check_sizes
from leastshelf.prices import PriceTable
from leastshelf.spreads import fewest_writings, most_spills, spread, unlike_price, unlike_sizes
from samples import Raising
from test_plans import merges

GRID = [(height, writings) for height in range(1, 6) for writings in range(6)]


def slow_spread(height, writings, first=0):
    """Returns the rows of the spread of (height, writings), as point 127 says it."""
    if height == 0 or writings == 0:
        return []
    rows = slow_spread(height, writings - 1, first)
    end = first + len(rows) + 1
    rows = rows + [((first, end),) if rows else ()]
    return rows + slow_spread(height - 1, writings, end)


def longest(height, writings, most):
    """Returns the most spills, up to most, of a plan for height runs in which no spill has more writings."""
    # of each standing run only the greatest number of writings of its spills counts
    states = {()}
    for spill in range(most):
        found = {standing + (1,) for standing in states}
        for many in range(spill + 1, 1, -1):
            for standing in [one for one in found if len(one) == many]:
                spans = [(at, at + 1) for at in range(many)]
                for (i, j), _ in merges(spans):
                    top = max(standing[i:j]) + 1
                    if top <= writings:
                        found.add(standing[:i] + (top,) + standing[j:])
        states = {standing for standing in found if len(standing) <= height and max(standing) <= writings}
        if not states:
            return spill
    return most


class SpreadTest(Raising, unittest.TestCase):
    def test_point_127_spreads(self):
        for height, writings in GRID:
            many = math.comb(height + writings, height) - 1
            plan = spread(height, writings)
            self.assertIsInstance(plan, Plan)
            self.assertEqual(list(plan), slow_spread(height, writings))
            self.assertEqual((most_spills(height, writings), len(plan)), (many, many))
            if many:
                self.assertEqual((plan.height, max(plan.writings())), (min(height, many), writings))

    def test_point_127_first_rows(self):
        for height, writings in GRID:
            rows = slow_spread(height, writings)
            for spills in {0, 1, 2, 3, len(rows) // 2, len(rows) - 1, len(rows)} & set(range(len(rows) + 1)):
                self.assertEqual(list(spread(height, writings, spills=spills)), rows[:spills])
            self.assertEqual(spread(height, writings, spills=None), Plan(rows))
            for more in (1, 2, 100):
                self.raised(TooMany, [len(rows)], spread, height, writings, spills=len(rows) + more)
        self.assertRaises(TypeError, spread, 2, 2, 3)

    def test_point_127_no_plan_has_more_spills(self):
        for height, writings in ((1, 0), (1, 1), (1, 3), (2, 1), (2, 2), (3, 1), (3, 2), (2, 3), (4, 1)):
            many = most_spills(height, writings)
            self.assertEqual(longest(height, writings, many + 2), many)

    def test_fewest_writings(self):
        for height in range(1, 7):
            for spills in range(60):
                told = fewest_writings(spills, height)
                self.assertGreaterEqual(most_spills(height, told), spills)
                if told:
                    self.assertLess(most_spills(height, told - 1), spills)
        self.assertEqual([fewest_writings(spills, 1) for spills in (0, 1, 2, 400)], [0, 1, 2, 400])
        self.assertEqual([fewest_writings(spills, 2) for spills in (0, 1, 2, 3, 5, 6)], [0, 1, 1, 2, 2, 3])

    def test_a_height_of_0(self):
        for writings in range(4):
            self.assertEqual((most_spills(0, writings), list(spread(0, writings))), (0, []))

    def test_writings_of_0_and_1(self):
        for height in range(1, 6):
            self.assertEqual((most_spills(height, 0), list(spread(height, 0)), list(spread(height, 0, spills=0))), (0, [], []))
            self.raised(TooMany, [0], spread, height, 0, spills=1)
            self.assertEqual(list(spread(height, 1)), [()] * height)
        self.assertEqual(list(spread(1, 4)), [(), ((0, 2),), ((0, 3),), ((0, 4),)])

    def test_example(self):
        told = [unlike_price(5, 2), unlike_price(6, 2), unlike_price(10, 2)]
        self.assertEqual([most_spills(2, 2), list(spread(2, 2)), fewest_writings(6, 2), told],
                         [5, [(), (), ((0, 3),), (), ((3, 5),)], 3, [5, 8, 20]])


class UnlikeTest(unittest.TestCase):
    def test_unlike_sizes(self):
        self.assertEqual((unlike_sizes(0), unlike_sizes(1), unlike_sizes(3)), ([], [[1]], [[1, 2, 3], [1, 2], [1]]))
        for spills in range(12):
            table = unlike_sizes(spills)
            self.assertTrue(isinstance(table, list) and all(isinstance(row, list) for row in table))
            told = check_sizes(table, spills)
            self.assertTrue(all(told[i][j - i - 1] == j - i for i in range(spills) for j in range(i + 1, spills + 1)))

    def test_point_128_against_the_table(self):
        for spills in range(25):
            for height in (1, 2, 3, 4, 7, 24, 25):
                self.assertEqual(unlike_price(spills, height), PriceTable(unlike_sizes(spills), height).least)

    def test_point_128_against_the_lengths_alone(self):
        # unlike spans of one length are alike, so least prices depend on the length
        @functools.lru_cache(maxsize=None)
        def least(height, many):
            if many <= height:
                return 0
            found = [least(height - 1, many - 1)] if height > 1 else []
            found += [length + least(height, length - 1) + least(height - 1, many - length)
                      for length in range(2, many + 1) if height > 1 or length == many]
            return min(found)
        for height in (1, 2, 3, 5, 9, 24):
            for spills in list(range(120)) + [150, 200]:
                self.assertEqual(unlike_price(spills, height), least(height, spills), (spills, height))

    def test_no_plan_is_cheaper_than_the_spread(self):
        for height in range(1, 5):
            for writings in range(1, 5):
                plan = spread(height, writings)
                self.assertGreaterEqual(plan.price(unlike_sizes(len(plan))), unlike_price(len(plan), height))

    def test_edges(self):
        self.assertEqual([unlike_price(0, height) for height in (1, 2, 24)], [0, 0, 0])
        self.assertEqual([unlike_price(spills, 4) for spills in (1, 2, 3, 4, 5)], [0, 0, 0, 0, 2])
        self.assertEqual([unlike_price(spills, 1) for spills in (1, 2, 3, 4, 400)], [0, 2, 5, 9, 400 * 401 // 2 - 1])

    def test_results_are_new(self):
        unlike_sizes(3)[0].clear()
        self.assertEqual(unlike_sizes(3)[0], [1, 2, 3])


if __name__ == "__main__":
    unittest.main()
