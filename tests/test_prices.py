"""Points 125 and 126: least prices of plans, and plans that have them."""

import functools
import unittest

from leastshelf.errors import BadLimit, BadSizes
from leastshelf.plans import Plan
from leastshelf.prices import PriceTable
from samples import ODD_VALUES, Raising, seeded
from test_plans import all_plans, merges, random_sizes

BAD_HEIGHTS = tuple(thing for thing in ODD_VALUES if thing != 10 ** 30) + (0, -1, "1", (1,), [1], 1.5)


def slow_rows(sizes, height):
    """Returns a dict from (k, i, j) to the price and the seam, as point 125 says them."""
    many = len(sizes)

    @functools.lru_cache(maxsize=None)
    def price(k, i, j):
        if i == j:
            return (0, i)
        if k == 0:
            return None
        found = []
        for seam in range(i + 1, j + 1):
            behind = price(k - 1, seam, j)
            if behind is not None:
                ahead = 0 if seam == i + 1 else sizes[i][seam - i - 1] + price(k, i, seam - 1)[0]
                found.append((ahead + behind[0], seam))
        return min(found)

    return {(k, i, j): price(k, i, j) for k in range(1, height + 1) for i in range(many + 1) for j in range(i, many + 1)}


def slow_plan(told, k, i, j):
    """Returns the rows of the cheapest plan of (k, i, j), as point 126 says it."""
    if i == j:
        return []
    seam = told[(k, i, j)][1]
    rows = {spill: () for spill in range(i, j)}
    if seam != i + 1:
        rows.update(dict(zip(range(i, seam - 1), slow_plan(told, k, i, seam - 1))))
        rows[seam - 1] = ((i, seam),)
    rows.update(dict(zip(range(seam, j), slow_plan(told, k - 1, seam, j))))
    return [rows[spill] for spill in range(i, j)]


def searched(sizes, height):
    """Returns the least price of all plans, and that of those that leave one run, by going through what may stand."""
    best = {(): 0}
    for spill in range(len(sizes)):
        found = {standing + ((spill, spill + 1),): price for standing, price in best.items()}
        # a pour leaves fewer runs, so those that many are left of are poured first
        for many in range(spill + 1, 1, -1):
            for standing, price in [pair for pair in found.items() if len(pair[0]) == many]:
                for (i, j), left in merges(list(standing)):
                    more = price + sizes[i][j - i - 1]
                    found[tuple(left)] = min(more, found.get(tuple(left), more))
        best = {standing: price for standing, price in found.items() if len(standing) <= height}
    return min(best.values()), min([price for left, price in best.items() if len(left) == 1], default=None)


class PricesTest(Raising, unittest.TestCase):
    def tables(self, number, many=60, longest=9):
        """Yields size tables and heights."""
        rng = seeded(number)
        for at in range(many):
            spills = rng.randrange(longest)
            yield random_sizes(rng, spills, rng.choice((2, 4, 30))), rng.randrange(1, 6 if at % 5 else spills + 3)

    def test_point_125(self):
        for sizes, height in self.tables(125):
            table = PriceTable(sizes, height)
            told = slow_rows(sizes, height)
            for place, (price, seam) in told.items():
                self.assertEqual((table(*place), table.seam(*place)), (price, seam))
            rows = table.closed_rows()
            self.assertIsInstance(rows, list)
            self.assertEqual(rows, sorted((*place, *said) for place, said in told.items()))
            self.assertEqual(table.least, told[(height, 0, len(sizes))][0])
            self.assertEqual(PriceTable(tuple(map(tuple, sizes)), height).closed_rows(), rows)

    def test_point_125_no_plan_is_cheaper(self):
        rng = seeded(1250)
        for many in range(7):
            for _ in range(6):
                sizes = random_sizes(rng, many, rng.choice((3, 20)))
                for height in range(1, many + 2):
                    least, to_one = searched(sizes, height)
                    table = PriceTable(sizes, height)
                    self.assertEqual((table.least, table.least_to_one), (least, to_one if many else None))

    def test_point_125_all_small_plans(self):
        rng = seeded(1251)
        for many in range(1, 5):
            for _ in range(4):
                sizes = random_sizes(rng, many, 9)
                for height in (1, 2, 3):
                    prices = [(Plan(rows).price(sizes), len(end)) for rows, end in all_plans(many, height)]
                    table = PriceTable(sizes, height)
                    self.assertEqual(table.least, min(price for price, _ in prices))
                    self.assertEqual(table.least_to_one, min(price for price, left in prices if left == 1))

    def test_point_125_more_runs_cost_no_more(self):
        for sizes, _ in self.tables(1252, 20):
            table = PriceTable(sizes, 6)
            for k, i, j, price, _ in table.closed_rows():
                if k < 6:
                    self.assertLessEqual(table(k + 1, i, j), price)
        sizes = [[size + 1 for size in row] for row in random_sizes(seeded(1253), 7)]
        for k, i, j, price, _ in PriceTable(sizes, 8).closed_rows():
            self.assertEqual(price == 0, j - i <= k)

    def test_point_126_cheapest_plans(self):
        for sizes, height in self.tables(126):
            table = PriceTable(sizes, height)
            plan = table.cheapest()
            self.assertIsInstance(plan, Plan)
            self.assertEqual(list(plan), slow_plan(slow_rows(sizes, height), height, 0, len(sizes)))
            self.assertLessEqual(plan.height, height)
            self.assertEqual((len(plan), plan.price(sizes)), (len(sizes), table.least))

    def test_equal_prices_take_the_least_seam(self):
        table = PriceTable([[0] * (5 - i) for i in range(5)], 2)
        self.assertEqual([table.seam(2, i, 5) for i in range(6)], [1, 2, 3, 4, 5, 5])
        self.assertEqual([table.seam(1, 0, j) for j in range(6)], [0, 1, 2, 3, 4, 5])
        self.assertEqual(list(table.cheapest()), [(), (), ((1, 3),), ((1, 4),), ((1, 5),)])
        ties = PriceTable([[9, 1, 1], [9, 1], [9]], 2)
        self.assertEqual((ties.least, ties.seam(2, 0, 3)), (1, 1))
        dear = PriceTable([[9, 1, 1], [9, 2], [9]], 2)
        self.assertEqual((dear.least, dear.seam(2, 0, 3)), (1, 2))
        self.assertEqual((ties(1, 0, 3), ties.seam(1, 0, 3)), (2, 3))

    def test_heights(self):
        sizes = random_sizes(seeded(127), 6)
        one = PriceTable(sizes, 1)
        self.assertEqual(one.least, sum(sizes[0][1:]))
        self.assertEqual(list(one.cheapest()), [(), *[((0, j),) for j in range(2, 7)]])
        self.assertEqual(one.least_to_one, one.least)
        for height in (6, 7, 30):
            table = PriceTable(sizes, height)
            self.assertEqual((table.least, list(table.cheapest()), table.least_to_one), (0, [()] * 6, sizes[0][5]))

    def test_few_spills(self):
        for height in (1, 2, 9):
            for sizes in ([], ()):
                none = PriceTable(sizes, height)
                self.assertEqual((none.least, none.least_to_one, list(none.cheapest()), none(1, 0, 0), none.seam(height, 0, 0)),
                                 (0, None, [], 0, 0))
                self.assertEqual(none.closed_rows(), [(k, 0, 0, 0, 0) for k in range(1, height + 1)])
            one = PriceTable([[7]], height)
            self.assertEqual((one.least, one.least_to_one, list(one.cheapest()), one(1, 0, 1), one.seam(1, 0, 1)), (0, 0, [()], 0, 1))
            two = PriceTable([[7, 5], [3]], height)
            self.assertEqual((two.least, two.least_to_one), (5 if height == 1 else 0, 5))

    def test_sizes_of_one_spill_are_never_counted(self):
        for sizes, height in self.tables(1261, 20):
            other = [[99, *row[1:]] for row in sizes]
            self.assertEqual(PriceTable(other, height).closed_rows(), PriceTable(sizes, height).closed_rows())

    def test_errors_in_their_order(self):
        for thing in ODD_VALUES + (3, "ab", {}):
            self.raised(BadSizes, [0], PriceTable, thing, 0)
        for sizes, place in (([[1]] * 2, 0), ([[1, 2], []], 1), ([[1, 2], [-1]], 1), ([[1, True], [1]], 0), ([None], 0),
                             ([[1, 2, 3], [1, 2], ["1"]], 2), ([[], []], 0), ([[1, 2], [3, 4]], 1)):
            self.raised(BadSizes, [place], PriceTable, sizes, None)
        for height in BAD_HEIGHTS:
            self.raised(BadLimit, [height], PriceTable, [[1, 2], [3]], height)
            self.raised(BadLimit, [height], PriceTable, [], height)

    def test_example(self):
        table = PriceTable([[1, 2, 3, 1], [1, 2, 4], [1, 2], [1]], 2)
        self.assertEqual([table.least, table.seam(2, 0, 4), table(1, 0, 4), list(table.cheapest())], [3, 3, 6, [(), (), ((0, 3),), ()]])

    def test_point_1_tables_never_change(self):
        sizes = [[1, 2, 3, 1], [1, 2, 4], [1, 2], [1]]
        table = PriceTable(sizes, 2)
        rows = table.closed_rows()
        table.closed_rows().clear()
        sizes[0].clear()
        sizes.clear()
        self.assertEqual((table.closed_rows(), table.least, table.least_to_one, table.cheapest().outcomes()),
                         (rows, 3, 1 + table(2, 0, 3), [(0, 3)]))


if __name__ == "__main__":
    unittest.main()
