"""Points 121 to 124: plans, their pours, and size tables."""

import itertools
import unittest

from leastshelf.errors import BadPlan, BadSizes
from leastshelf.plans import Plan, check_sizes
from samples import ODD_VALUES, Raising, seeded

EXAMPLE = ((), (), ((1, 3),), (), ((0, 3), (3, 5)))
TABLE = ((1, 2, 3, 4, 5), (1, 2, 3, 4), (1, 2, 3), (1, 2), (1,))

BAD_SPANS = ODD_VALUES + ((), (0,), (0, 1, 2), [0, 2], (1, 1), (2, 0), (-1, 2), (True, 2), (0, True), (False, 2), (0.0, 2), ("0", 2),
                          (None, 2), ((0, 2),), "02")


def merges(standing):
    """Returns all spans that a pour of standing runs may have, and what stands behind each."""
    out = []
    for first, last in itertools.combinations(range(len(standing)), 2):
        span = (standing[first][0], standing[last][1])
        out.append((span, standing[:first] + [span] + standing[last + 1:]))
    return out


def rows_behind(standing):
    """Yields each row of pours that standing runs allow, and what stands behind it."""
    yield [], standing
    for span, left in merges(standing):
        for row, end in rows_behind(left):
            yield [span] + row, end


def all_plans(many, height=None, spill=0, standing=()):
    """Yields the rows of all plans of so many spills, for at most height runs, and what stands at their end."""
    if spill == many:
        yield [], list(standing)
        return
    for row, left in rows_behind(list(standing) + [(spill, spill + 1)]):
        if height is None or len(left) <= height:
            for rows, end in all_plans(many, height, spill + 1, left):
                yield [row] + rows, end


def random_plan(rng, many, pours=0.4):
    """Returns the rows of a plan of so many spills, and the runs that stand behind each of them."""
    rows, standings, standing = [], [], []
    for spill in range(many):
        row, standing = [], standing + [(spill, spill + 1)]
        while len(standing) > 1 and rng.random() < pours:
            span, standing = rng.choice(merges(standing))
            row.append(span)
        rows.append(row)
        standings.append(standing)
    return rows, standings


def random_sizes(rng, many, most=9):
    """Returns a size table of so many spills."""
    return [[rng.randrange(most) for _ in range(many - i)] for i in range(many)]


class PlanTest(Raising, unittest.TestCase):
    def test_points_122_and_123(self):
        rng = seeded(122)
        for _ in range(150):
            many = rng.randrange(9)
            rows, standings = random_plan(rng, many)
            plan = Plan(rng.choice((rows, tuple(map(tuple, rows)), tuple(rows))))
            outcomes = [span for row in rows for span in row]
            self.assertEqual((len(plan), list(plan)), (many, [tuple(row) for row in rows]))
            self.assertEqual([row for row in plan], list(plan))
            self.assertEqual(plan.height, max(map(len, standings), default=0))
            self.assertEqual(plan.outcomes(), outcomes)
            self.assertEqual([plan.standing(spill) for spill in range(many)], standings)
            writings = plan.writings()
            self.assertEqual(writings, [1 + sum(spill in range(*span) for span in outcomes) for spill in range(many)])
            self.assertEqual(sum(writings), many + sum(j - i for i, j in outcomes))
            self.assertEqual(len(set(outcomes)), len(outcomes))

    def test_all_small_plans(self):
        for many in range(5):
            told = [rows for rows, _ in all_plans(many)]
            for rows, end in all_plans(many):
                plan = Plan(rows)
                self.assertEqual(plan.standing(many - 1) if many else [], end)
            # rows of spans that are no plans are refused, all others are taken
            if many == 3:
                spans = [(i, j) for i in range(4) for j in range(i + 1, 5)]
                choices = [list(row) for size in range(3) for row in itertools.product(spans, repeat=size)]
                for row in choices:
                    for other in choices[:11]:
                        rows = [[], other, row]
                        if rows in told:
                            self.assertEqual(len(Plan(rows)), 3)
                        else:
                            self.assertRaises(BadPlan, Plan, rows)

    def test_a_plan_without_spills(self):
        for plan in (Plan([]), Plan(())):
            self.assertEqual((len(plan), list(plan), plan.height, plan.outcomes(), plan.writings(), plan.price([])),
                             (0, [], 0, [], [], 0))

    def test_a_plan_of_one_spill(self):
        plan = Plan([()])
        self.assertEqual((len(plan), list(plan), plan.height, plan.outcomes(), plan.standing(0), plan.writings(), plan.price([[7]])),
                         (1, [()], 1, [], [(0, 1)], [1], 0))
        self.raised(BadPlan, [0], Plan, [[(0, 1)]])

    def test_while_a_row_is_taken_more_may_stand(self):
        self.assertEqual(Plan([[], [(0, 2)], [(0, 3)]]).height, 1)
        self.assertEqual(Plan([[], [], [], [(2, 4), (0, 2), (0, 4)]]).height, 3)

    def test_pours_that_are_not_allowed(self):
        # nothing begins at i, nothing ends at j, fewer than two runs stand within
        for rows, place in (([[], [(0, 2)], [(1, 3)]], 2), ([[], [], [(0, 2)], [(0, 1)]], 3), ([[], [(0, 2)], [], [(0, 3), (2, 4)]], 3),
                            ([[], [(0, 3)]], 1), ([[], [(0, 2), (0, 2)]], 1), ([[], [(0, 1)]], 1), ([[], [(1, 2)]], 1),
                            ([[], [(0, 2)], [(0, 2)]], 2), ([[], [], [(0, 3), (0, 2)]], 2), ([[], [(2, 4)]], 1), ([[(5, 7)]], 0),
                            ([[], [(0, 2)], [(2, 3)]], 2), ([[], [(0, 10 ** 30)]], 1)):
            self.raised(BadPlan, [place], Plan, rows)
            self.raised(BadPlan, [place], Plan, rows + [None])
            self.raised(BadPlan, [place], Plan, tuple(tuple(row) for row in rows))

    def test_rows_that_are_none(self):
        for thing in ODD_VALUES + (3, "ab", {0: []}):
            self.raised(BadPlan, [0], Plan, thing)
        for thing in ODD_VALUES + (3, "ab", {}, (0, 2)):
            self.raised(BadPlan, [2], Plan, [[], (), thing, None])
        for span in BAD_SPANS:
            self.raised(BadPlan, [1], Plan, [[], [span], None])
            self.raised(BadPlan, [2], Plan, [[], [], [(0, 2), span]])
            self.raised(BadPlan, [1], Plan, ([], (span, (0, 2))))

    def test_equality(self):
        plan = Plan(EXAMPLE)
        self.assertTrue(plan == Plan([list(row) for row in EXAMPLE]))
        self.assertTrue(Plan([]) == Plan(()))
        others = (Plan(EXAMPLE[:4]), Plan(EXAMPLE[:4] + (((3, 5), (0, 3)),)), Plan([[]] * 5), EXAMPLE, list(EXAMPLE), None, 5)
        for other in others + ODD_VALUES:
            self.assertIs(plan == other, False)
            self.assertIs(plan != other, True)
        self.assertEqual([bool(Plan([])), bool(plan)], [False, True])

    def test_example(self):
        plan = Plan([[], [], [(1, 3)], [], [(0, 3), (3, 5)]])
        table = [[1, 2, 3, 4, 5], [1, 2, 3, 4], [1, 2, 3], [1, 2], [1]]
        self.assertEqual([plan.height, plan.outcomes(), plan.standing(2), plan.writings(), plan.price(table)],
                         [3, [(1, 3), (0, 3), (3, 5)], [(0, 1), (1, 3)], [2, 3, 3, 2, 2], 7])
        self.raised(BadPlan, [1], Plan, [[], [(0, 1)]])

    def test_point_1_plans_never_change(self):
        rows = [[], [], [(1, 3)], [], [(0, 3), (3, 5)]]
        plan = Plan(rows)
        rows[2].clear()
        rows.clear()
        for told in (plan.outcomes(), plan.standing(4), plan.writings(), list(plan)):
            told.clear()
        self.assertEqual((plan, len(plan), plan.outcomes(), plan.standing(4), plan.writings()),
                         (Plan(EXAMPLE), 5, [(1, 3), (0, 3), (3, 5)], [(0, 3), (3, 5)], [2, 3, 3, 2, 2]))
        self.assertTrue(all(isinstance(row, tuple) for row in plan))


class SizesTest(Raising, unittest.TestCase):
    def bad_tables(self):
        """Yields values that are no size tables of three spills, with the place that is told."""
        good = [[1, 0, 5], [2, 2], [10 ** 30]]
        for thing in ODD_VALUES + (3, "abc", {0: [1, 0, 5]}):
            yield thing, 0
        for many in range(3):
            yield good[:many], many
        for place in range(3):
            for thing in ODD_VALUES + (3, "ab", [], good[place][:-1], good[place] + [1], (*good[place], 1), {1: 2}):
                yield good[:place] + [thing] + good[place + 1:], place
                yield tuple(good[:place] + [thing, None, None, None]), place
            for size in (-1, True, False, None, 1.0, "1", (1,), 0.5):
                yield good[:place] + [[size] + good[place][1:]] + good[place + 1:], place
                yield good[:place] + [good[place][:-1] + [size], None, None], place
        yield good + [[]], 3
        yield good + [None, [1]], 3

    def test_check_sizes(self):
        for table in (TABLE, [list(row) for row in TABLE], list(TABLE), tuple([list(row) for row in TABLE])):
            told = check_sizes(table, 5)
            self.assertEqual(told, TABLE)
            self.assertTrue(isinstance(told, tuple) and all(isinstance(row, tuple) for row in told))
        self.assertEqual((check_sizes([], 0), check_sizes((), 0), check_sizes([[0]], 1)), ((), (), ((0,),)))

    def test_errors(self):
        for table, place in self.bad_tables():
            self.raised(BadSizes, [place], check_sizes, table, 3)
            self.raised(BadSizes, [place], Plan([[], [], []]).price, table)
        self.raised(BadSizes, [0], check_sizes, [[1]], 0)
        self.raised(BadSizes, [0], check_sizes, None, 0)
        self.raised(BadSizes, [0], Plan([]).price, [[]])
        self.raised(BadSizes, [5], Plan(EXAMPLE).price, TABLE + ((),))

    def test_point_124_prices(self):
        rng = seeded(124)
        for _ in range(120):
            many = rng.randrange(8)
            plan = Plan(random_plan(rng, many)[0])
            table = random_sizes(rng, many)
            price = sum(table[i][j - i - 1] for i, j in plan.outcomes())
            self.assertEqual(plan.price(table), price)
            self.assertEqual(plan.price(tuple(map(tuple, table))), price)
            for row in table:
                # the sizes of spans of one spill are never counted
                row[0] = 10 ** 6
            self.assertEqual(plan.price(table), price)

    def test_arguments_stay(self):
        table = [list(row) for row in TABLE]
        told = check_sizes(table, 5)
        Plan(EXAMPLE).price(table)
        self.assertEqual(table, [list(row) for row in TABLE])
        table[0].clear()
        self.assertEqual(told, TABLE)


if __name__ == "__main__":
    unittest.main()
