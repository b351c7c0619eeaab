"""Point 82: cursors."""

import inspect
import unittest

from leastshelf.books import Book
from leastshelf.cursors import Cursor
from leastshelf.errors import BadStep, Unknown
from samples import KINDS, TOP, Raising, random_batch, seeded
from test_deeds import BAD_NAMES


def sample_book(rng, kind, a=0, b=TOP):
    """Returns a book with the live view 3 over a stretch."""
    book = Book(kind)
    book.write(random_batch(rng, 10, 6))
    book.hold(3, a, b)
    book.write(random_batch(rng, 10, 6))
    return book


def one_view(pieces, a=0, b=20):
    """Returns a book with the live view 3 with these pieces and the view 8 with no piece."""
    return Book.made("list", ([pieces], [(3, a, b, pieces), (8, 2, 5, [])]))


PIECES = ((1, 3, (1,)), (3, 4, (2,)), (6, 9, (1,)))


class CursorTest(Raising, unittest.TestCase):
    def test_forward(self):
        book = one_view(PIECES)
        cursor = Cursor(book, 3)
        self.assertEqual((cursor.name, cursor.done), (3, False))
        for place, piece in enumerate(PIECES):
            self.assertEqual(cursor.forward(), piece)
            self.assertIs(cursor.done, False)
            self.assertEqual(book.view(3), (piece[1], 20, list(PIECES[place + 1:])))
        self.assertIsNone(cursor.forward())
        self.assertEqual((cursor.done, book.names()), (True, [8]))
        self.assertEqual((cursor.forward(), cursor.backward(), book.names()), (None, None, [8]))
        self.assertEqual(cursor.name, 3)

    def test_backward(self):
        book = one_view(PIECES)
        cursor = Cursor(book, 3)
        for place in (2, 1, 0):
            self.assertEqual(cursor.backward(), PIECES[place])
            self.assertIs(cursor.done, False)
            self.assertEqual(book.view(3), (0, PIECES[place][0], list(PIECES[:place])))
        self.assertIsNone(cursor.backward())
        self.assertEqual((cursor.done, book.names()), (True, [8]))

    def test_no_key_left(self):
        for back in (False, True):
            book = one_view(PIECES[:2], 1, 4)
            cursor = Cursor(book, 3)
            moves = [cursor.backward if back else cursor.forward for _ in range(2)]
            self.assertEqual((moves[0](), cursor.done, book.names()), (PIECES[back], False, [3, 8]))
            self.assertEqual((moves[1](), cursor.done, book.names()), (PIECES[1 - back], True, [8]))
            self.assertEqual((moves[0](), book.names()), (None, [8]))

    def test_one_key_alone(self):
        for back in (False, True):
            book = one_view([(5, 6, (1,))], 5, 6)
            cursor = Cursor(book, 3)
            self.assertEqual((cursor.backward() if back else cursor.forward(), cursor.done), ((5, 6, (1,)), True))

    def test_a_view_without_pieces(self):
        for back in (False, True):
            book = one_view(PIECES)
            cursor = Cursor(book, 8)
            self.assertEqual((cursor.name, cursor.done), (8, False))
            self.assertIsNone(cursor.backward() if back else cursor.forward())
            self.assertEqual((cursor.done, book.names()), (True, [3]))
            book = one_view(PIECES)
            self.assertEqual((list(Cursor(book, 8).sweep(back=back)), book.names()), ([], [3]))

    def test_both_ways(self):
        book = one_view(PIECES)
        cursor = Cursor(book, 3)
        self.assertEqual([cursor.backward(), cursor.forward()], [PIECES[2], PIECES[0]])
        self.assertEqual(book.view(3), (3, 6, [PIECES[1]]))
        self.assertEqual([cursor.forward(), cursor.done, book.view(3)], [PIECES[1], False, (4, 6, [])])
        self.assertEqual([cursor.backward(), cursor.done, book.names()], [None, True, [8]])

    def test_point_82_all_pieces(self):
        rng = seeded(82)
        for kind in KINDS:
            for _ in range(15):
                a = rng.randrange(8)
                book = sample_book(rng, kind, a, rng.choice((a + 1, a + 5, TOP)))
                pieces = book.view(3)[2]
                stores = book.least_store()[0]
                cursor = Cursor(book, 3)
                ahead, behind = [], []
                while not cursor.done:
                    back = rng.random() < 0.5
                    piece = cursor.backward() if back else cursor.forward()
                    if piece is not None:
                        (behind if back else ahead).append(piece)
                    if rng.random() < 0.3:
                        book.answer(rng.choice((("sync",), ("write", random_batch(rng)), ("hold", 5, 0, 9), ("drop", 5))))
                        stores = book.least_store()[0]
                    self.assertEqual(book.least_store()[0], stores)
                self.assertEqual(ahead + behind[::-1], pieces)
                self.assertNotIn(3, book.names())

    def test_sweep(self):
        rng = seeded(820)
        for kind in KINDS:
            for back in (False, True):
                book = sample_book(rng, kind, 1, 9)
                pieces = book.view(3)[2]
                cursor = Cursor(book, 3)
                sweep = cursor.sweep(back=back)
                self.assertTrue(inspect.isgenerator(sweep))
                self.assertEqual((book.view(3)[2], cursor.done), (pieces, False))
                self.assertEqual(list(sweep), pieces[::-1] if back else pieces)
                self.assertEqual((cursor.done, book.names(), list(cursor.sweep())), (True, [], []))

    def test_sweep_goes_on_from_where_the_cursor_is(self):
        book = one_view(PIECES)
        cursor = Cursor(book, 3)
        cursor.forward()
        sweep = cursor.sweep()
        self.assertEqual(next(sweep), PIECES[1])
        self.assertEqual(book.view(3), (4, 20, [PIECES[2]]))
        self.assertEqual(list(cursor.sweep(back=True)), [PIECES[2]])
        self.assertEqual((list(sweep), cursor.done), ([], True))
        self.assertRaises(TypeError, cursor.sweep, True)

    def test_a_view_that_is_dropped_or_narrowed_meanwhile(self):
        for move in ("forward", "backward"):
            book = one_view(PIECES)
            cursor = Cursor(book, 3)
            book.narrow(3, 2, 8)
            self.assertEqual(getattr(cursor, move)(), (2, 3, (1,)) if move == "forward" else (6, 8, (1,)))
            book.drop(3)
            self.raised(Unknown, [3], getattr(cursor, move))
            self.assertIs(cursor.done, False)
            self.raised(Unknown, [3], lambda: list(cursor.sweep()))
            book.write([(0, 1, True, (9,))])
            book.hold(3, 0, 1)
            self.assertEqual((getattr(cursor, move)(), cursor.done, book.names()), ((0, 1, (9,)), True, [8]))
            book.hold(3, 0, 5)
            self.assertEqual((getattr(cursor, move)(), book.names()), (None, [3, 8]))

    def test_a_crash(self):
        book = one_view(PIECES)
        cursor = Cursor(book, 3)
        book.crash(0)
        self.raised(Unknown, [3], cursor.forward)
        self.raised(Unknown, [3], cursor.backward)
        self.assertIs(cursor.done, False)

    def test_two_cursors_over_one_view(self):
        book = one_view(PIECES)
        one, other = Cursor(book, 3), Cursor(book, 3)
        self.assertEqual([one.forward(), other.forward(), one.backward()], list(PIECES))
        self.assertIsNone(one.backward())
        self.assertEqual((one.done, other.done), (True, False))
        self.raised(Unknown, [3], other.forward)

    def test_bad_names(self):
        book = one_view(PIECES)
        for name in BAD_NAMES:
            self.raised(BadStep, [0], Cursor, book, name)
        for name in (0, 4, 99):
            self.raised(Unknown, [name], Cursor, book, name)
        self.assertEqual(book.names(), [3, 8])
        self.assertEqual(book.view(3), (0, 20, list(PIECES)))


if __name__ == "__main__":
    unittest.main()
