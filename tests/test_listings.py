"""Point 150: listings of desks."""

import unittest

from leastshelf.desks import Desk
from leastshelf.leastruns import whole_counts
from leastshelf.listings import listing
from desking import do_deed, random_deeds
from samples import KINDS, TOP, seeded
from test_desks import desk_behind, put


def filled(number, width):
    """Returns a number behind one space, filled up on the left to the width."""
    text = str(number)
    while len(text) < width:
        text = " " + text
    return " " + text


def slow_listing(desk):
    """Returns the lines, as point 150 says them."""
    lines = [desk.kind + ": noted " + str(desk.noted) + ", kept " + str(desk.kept) + ", spilled " + str(desk.spilled)]
    for place, run in enumerate(desk.shelf().runs()):
        keys = sum(b - a for a, b, _ in run.reach().pieces())
        numbers = (place, run.begin, run.end, len(run.pieces()), whole_counts(run)[0], keys)
        lines.append("run" + "".join(filled(number, width) for number, width in zip(numbers, (2, 4, 4, 4, 8, 8))))
    for name, (number, a, b) in zip(desk.names(), desk.marks()):
        name = str(name) if name > 9 else "0" + str(name)
        lines.append("view " + name + "".join(filled(one, width) for one, width in zip((number, a, b), (4, 8, 8))))
    return lines


class ListingTest(unittest.TestCase):
    def test_point_150(self):
        rng = seeded(150)
        longest = 0
        for kind in KINDS:
            for most in (2, 8):
                desk = Desk(kind, most=most)
                for deed, _, _ in random_deeds(rng, kind, most, 30, 0.1):
                    do_deed(desk, deed)
                    told = listing(desk)
                    self.assertIsInstance(told, list)
                    self.assertEqual(told, slow_listing(desk))
                    longest = max(longest, len(told))
        self.assertGreater(longest, 4)

    def test_a_new_desk(self):
        for kind in KINDS:
            self.assertEqual(listing(Desk(kind)), [kind + ": noted 0, kept 0, spilled 0"])

    def test_lines(self):
        desk = desk_behind("list", [("write", put(1)), ("hold", 42, 5, 9), ("sync",), ("spill",), ("write", [(2, TOP, False, (2,))]),
                                    ("sync",), ("spill",), ("write", []), ("hold", 7, 0, TOP)])
        self.assertEqual(listing(desk), [
            "list: noted 3, kept 2, spilled 2",
            "run  0    1    2    2   999998   999998",
            "run  1    0    1    1        4        4",
            "view 07    3        0  1000000",
            "view 42    1        5        9",
        ])

    def test_numbers_wider_than_their_columns(self):
        desk = Desk("set")
        for _ in range(12):
            for at in range(10):
                desk.write([(0, TOP, True, (at,))])
                desk.hold(at, at, TOP) if at not in desk.names() else desk.sync()
                desk.sync()
            desk.spill()
        told = listing(desk)
        self.assertEqual((told, len(told)), (slow_listing(desk), 23))
        self.assertEqual(told[1], "run  0  110  120    1  1000000  1000000")
        self.assertEqual(told[11:13], ["run 10   10   20    1  1000000  1000000", "run 11    0   10    9  9999964  1000000"])
        self.assertEqual(told[13], "view 00    1        0  1000000")
        wide = Desk("list")
        wide.write([(0, TOP, True, (1,))])
        for at in range(11):
            wide.hold(at, 0, TOP)
            wide.write([(0, TOP, False, (1,))])
            wide.sync()
        wide.spill()
        self.assertEqual(listing(wide)[1], "run  0    0   12    1 12000000  1000000")
        for _ in range(101):
            wide.drop(10)
            wide.hold(10, 0, TOP)
            wide.write([(0, TOP, False, (1,))])
            wide.sync()
            wide.spill()
        self.assertEqual(listing(wide)[101], "run 100   12   13    1  1000000  1000000")

    def test_entries_wider_than_their_column(self):
        desk = Desk("list")
        for at in range(101):
            desk.write([(0, TOP, False, (1,))])
            if at < 100:
                desk.hold(at, 0, TOP)
            desk.sync()
        desk.spill()
        self.assertEqual(listing(desk)[1], "run  0    0  101    1 101000000  1000000")

    def test_results_are_new(self):
        desk = Desk("set")
        listing(desk).clear()
        self.assertEqual(len(listing(desk)), 1)

    def test_example(self):
        desk = Desk("set")
        desk.write([(0, 2, True, (5,))])
        desk.sync()
        desk.spill()
        desk.pour([0])
        self.assertEqual([desk.steps()[7:], listing(desk)],
                         [[("trim", 1), ("lay", 1), ("firm", 1), ("list", 1, (1,)), ("firm", "sheet"), ("clear", 0)],
                          ["set: noted 1, kept 1, spilled 1", "run  0    0    1    1        2        2"]])


if __name__ == "__main__":
    unittest.main()
