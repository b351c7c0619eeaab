"""Point 146: scans of desks and books."""

import inspect
import unittest

from leastshelf.books import Book
from leastshelf.desks import Desk
from leastshelf.errors import BadLimit, BadName, BadStretch, Outside, Unknown
from leastshelf.fields import Field
from leastshelf.scans import scan, walk
from desking import do_deed, random_deeds
from samples import KINDS, ODD_VALUES, TOP, Raising, seeded
from test_stretches import BAD_STRETCHES

BAD_NAMES = tuple(thing for thing in ODD_VALUES if thing is not None) + (100, -1, "3", (3,), [3], 3.0)
BAD_LIMITS = tuple(thing for thing in ODD_VALUES if thing not in (None, 10 ** 30)) + (-1, -5, "3", (3,), [3], 3.0)


def pairs(number, many=30):
    """Yields desks and books with the same stores and views."""
    rng = seeded(number)
    for kind in KINDS:
        desk, book = Desk(kind), Book(kind)
        for deed, _, _ in random_deeds(rng, kind, 8, many, 0.1):
            if do_deed(desk, deed) is not None:
                book.answer(deed)
        for one in (desk, book):
            one.sync()
            one.write([(0, 3, True, (1, 2)), (5, 7, False, (4,)), (9, TOP, False, (3,))])
            if 7 not in one.names():
                one.hold(7, 1, 9)
        yield desk, book


def stretches(rng, low, high, many):
    """Yields stretches within two ends; some reach them."""
    for _ in range(many):
        a = rng.randrange(low, high) if rng.random() < 0.8 else low
        b = rng.randrange(a + 1, high + 1) if rng.random() < 0.8 else high
        yield a, b


def samples(number):
    """Yields a desk or a book, a name or None, its pieces, and the two ends of its stretch."""
    for both in pairs(number):
        for one in both:
            yield one, None, one.store(), 0, TOP
            for name in one.names():
                a, b, pieces = one.view(name)
                yield one, name, pieces, a, b


def slow_scan(pieces, a, b):
    """Returns the parts of pieces within a stretch."""
    out = []
    for c, d, word in pieces:
        if max(a, c) < min(b, d):
            out.append((max(a, c), min(b, d), word))
    return out


class ScanTest(Raising, unittest.TestCase):
    def test_point_146(self):
        rng = seeded(146)
        for one, name, pieces, low, high in samples(146):
            self.assertEqual(scan(one, low, high, name=name), pieces)
            for a, b in stretches(rng, low, min(high, 14), 6):
                said = slow_scan(pieces, a, b)
                told = scan(one, a, b, name=name)
                self.assertIsInstance(told, list)
                self.assertEqual(told, said)
                self.assertEqual(scan(one, a, b, name=name, backward=False, limit=None), said)
                self.assertEqual(scan(one, a, b, name=name, backward=True), said[::-1])
                for limit in (0, 1, 2, len(said), len(said) + 1, 10 ** 30):
                    self.assertEqual(scan(one, a, b, name=name, limit=limit), said[:limit])
                    self.assertEqual(scan(one, a, b, name=name, backward=True, limit=limit), said[::-1][:limit])
                if name is None:
                    self.assertEqual((scan(one, a, b), scan(one, a, b, limit=1)), (said, said[:1]))

    def test_point_146_scans_behind_one_another(self):
        rng = seeded(1460)
        for one, name, _, low, high in samples(1460):
            for a, b in stretches(rng, low, min(high, 14), 4):
                for c in range(a + 1, b):
                    both = scan(one, a, c, name=name) + scan(one, c, b, name=name)
                    self.assertEqual(Field((), both).pieces(), scan(one, a, b, name=name))

    def test_walks(self):
        self.assertTrue(inspect.isgeneratorfunction(walk))
        rng = seeded(1461)
        for one, name, pieces, low, high in samples(1461):
            for a, b in stretches(rng, low, min(high, 14), 3):
                self.assertEqual(list(walk(one, a, b, name=name)), slow_scan(pieces, a, b))
            if name is None:
                self.assertEqual(list(walk(one, 0, TOP)), pieces)

    def test_desks_and_books_alike(self):
        for desk, book in pairs(1462):
            for name in (None, 7):
                self.assertEqual(scan(desk, 2, 8, name=name), scan(book, 2, 8, name=name))

    def test_errors_in_their_order(self):
        for make in (Desk, Book):
            one = make("set")
            one.write([(0, 9, True, (1,))])
            one.hold(3, 2, 6)
            for call in (scan, lambda *rest, **more: scan(*rest, backward=True, **more)):
                for stretch in BAD_STRETCHES:
                    if isinstance(stretch, tuple) and len(stretch) == 2:
                        self.raised(BadStretch, [0], call, one, *stretch, name="x", limit=-1)
                for name in BAD_NAMES:
                    self.raised(BadName, [name], call, one, 0, TOP, name=name, limit=-1)
                for name in (0, 4, 99):
                    self.raised(Unknown, [name], call, one, 0, TOP, name=name, limit=-1)
                for a, b in ((1, 6), (2, 7), (0, TOP), (0, 1), (6, 7)):
                    self.raised(Outside, [3], call, one, a, b, name=3, limit=-1)
                for limit in BAD_LIMITS:
                    self.raised(BadLimit, [limit], call, one, 0, TOP, limit=limit)
                    self.raised(BadLimit, [limit], call, one, 2, 6, name=3, limit=limit)
            self.assertRaises(TypeError, scan, one, 0, 1, 3)

    def test_errors_of_walks_come_with_the_first_piece(self):
        for make in (Desk, Book):
            one = make("set")
            one.hold(3, 2, 6)
            for error, value, stretch, name in ((BadStretch, 0, (3, 3), "x"), (BadName, "x", (0, 9), "x"), (Unknown, 4, (0, 9), 4),
                                                (Outside, 3, (2, 7), 3)):
                row = walk(one, *stretch, name=name)
                self.raised(error, [value], next, row)
            row = walk(one, 0, 9, name=8)
            one.hold(8, 0, 9)
            self.assertEqual(list(row), [])

    def test_results_are_new(self):
        one = Desk("set")
        one.write([(0, 9, True, (1,))])
        scan(one, 0, 9).clear()
        self.assertEqual(scan(one, 0, 9), [(0, 9, (1,))])


if __name__ == "__main__":
    unittest.main()
