"""Point 64: marks and cuts."""

import unittest

from leastshelf.cuts import check_marks, cuts_at, is_mark
from leastshelf.errors import BadKey, BadMark
from samples import ODD_VALUES, TOP, Raising, seeded
from stacks import CELL_KEYS, random_marks, slow_cuts

GOOD_MARKS = ((0, 0, 1), (0, 0, TOP), (10 ** 30, 5, 9), (3, TOP - 1, TOP))
BAD_MARKS = ODD_VALUES + ((), (1,), (1, 2), (1, 2, 3, 4), [1, 2, 3], (-1, 2, 3), (True, 2, 3), (False, 2, 3), (1, 3, 3), (1, 3, 2),
                          (1, -1, 3), (1, 2, TOP + 1), (1, True, 3), (1, 0, True), (1.0, 2, 3), ("1", 2, 3), (None, 2, 3),
                          (1, (2, 3)), (1, None, 3), (1, 2, None), "abc")
BAD_MARK_ROWS = tuple(thing for thing in ODD_VALUES) + (3, "abc", {(1, 2, 3): 1})


class MarksTest(Raising, unittest.TestCase):
    def test_is_mark(self):
        for mark in GOOD_MARKS:
            self.assertIs(is_mark(mark), True)
        for thing in BAD_MARKS:
            self.assertIs(is_mark(thing), False)

    def test_check_marks(self):
        self.assertEqual(check_marks(list(GOOD_MARKS)), GOOD_MARKS)
        for marks in ([], (), GOOD_MARKS):
            self.assertIsInstance(check_marks(marks), tuple)
            self.assertEqual(check_marks(marks), tuple(marks))
        self.assertEqual(check_marks([(1, 0, 2), (1, 0, 2)]), ((1, 0, 2), (1, 0, 2)))
        for thing in BAD_MARK_ROWS:
            self.raised(BadMark, [0], check_marks, thing)
        for thing in BAD_MARKS:
            self.raised(BadMark, [0], check_marks, [thing])
            self.raised(BadMark, [2], check_marks, (*GOOD_MARKS[:2], thing, thing, GOOD_MARKS[2]))

    def test_arguments_stay(self):
        marks = [(1, 0, 2)]
        told = check_marks(marks)
        marks.append((2, 0, 2))
        self.assertEqual(told, ((1, 0, 2),))


class CutsTest(Raising, unittest.TestCase):
    def test_point_64(self):
        rng = seeded(64)
        for _ in range(150):
            begin = rng.randrange(4)
            end = begin + rng.randrange(1, 6)
            marks = random_marks(rng, end, 8)
            for key in CELL_KEYS:
                told = cuts_at(begin, end, marks, key)
                self.assertIsInstance(told, list)
                self.assertEqual(told, slow_cuts(begin, end, marks, key))

    def test_edges(self):
        marks = [(2, 0, 4), (5, 0, 4), (3, 0, 4), (3, 2, 9), (4, 4, 5), (3, 0, 1), (99, 0, 4), (0, 0, 4)]
        self.assertEqual(cuts_at(2, 5, [], 0), [5])
        self.assertEqual(cuts_at(0, 1, [(0, 0, 9), (1, 0, 9), (2, 0, 9)], 0), [1])
        self.assertEqual([cuts_at(2, 5, marks, key) for key in (0, 3, 4, 5, 8, 9, TOP - 1)],
                         [[3, 5], [3, 5], [3, 4, 5], [3, 5], [3, 5], [5], [5]])
        self.assertEqual(cuts_at(1, 6, marks, 3), [2, 3, 5, 6])
        self.assertEqual(cuts_at(1, 6, ((4, 3, 4),), 2), [6])
        self.assertEqual(cuts_at(1, 6, ((4, 3, TOP),), TOP - 1), [4, 6])

    def test_errors_in_their_order(self):
        for thing in BAD_MARK_ROWS:
            self.raised(BadMark, [0], cuts_at, 0, 4, thing, None)
        for thing in BAD_MARKS:
            self.raised(BadMark, [1], cuts_at, 0, 4, [(9, 0, 1), thing], -1)
        for key in ODD_VALUES + (TOP, "0", (0,)):
            self.raised(BadKey, [key], cuts_at, 0, 4, [(1, 0, 2)], key)
            self.raised(BadKey, [key], cuts_at, 0, 4, [], key)


if __name__ == "__main__":
    unittest.main()
