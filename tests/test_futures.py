"""Points 36, 37 and 38: futures, and those that tell books apart."""

import itertools
import unittest

from leastshelf.books import Book
from leastshelf.errors import BadStep, OtherBook
from leastshelf.futures import alike, answers, parting
from samples import KINDS, TOP, Raising, random_steps, seeded
from test_books import at
from test_deeds import bad_steps
from test_leasts import random_book

# enough questions and crashes to tell apart any two of the small books below
QUESTIONS = [("read", key) for key in (0, 1, 2)] + [("ask", name, key) for name in (3, 5) for key in (0, 1, 2)]
FUTURES = [[step] for step in QUESTIONS] + [[("crash", number)] for number in range(4)]
FUTURES += [[("crash", number), ("read", key)] for number in range(4) for key in (0, 1, 2)]


def small_books():
    """Returns books over the keys 0, 1 and 2 with all of a few stores and views."""
    empty, one, other = (), ((0, 2, (1,)),), ((0, 1, (1,)),)
    rows = [(empty,), (one,), (other, one), (empty, one), (one, one), (one, empty, one), (other, empty, one)]
    views = [(), ((3, 0, 2, ()),), ((3, 0, 3, ()),), ((3, 1, 3, ()),), ((3, 0, 2, other),), ((3, 0, 2, one),),
             ((5, 0, 2, ()),), ((3, 0, 2, ()), (5, 1, 2, ())), ((3, 0, 2, ()), (5, 1, 2, ((1, 2, (1,)),)))]
    return [Book.made("first", least, most=3) for least in itertools.product(rows, views)]


def slow_parting(one, other):
    """Returns the parting future of two books, as point 37 says it, from their least stores."""
    (stores, views), (other_stores, other_views) = one.least_store(), other.least_store()
    ends = {end for row in (*stores, *other_stores) for piece in row for end in piece[:2]}
    for view in (*views, *other_views):
        ends |= set(view[1:3]) | {end for piece in view[3] for end in piece[:2]}
    keys = sorted(end for end in ends if end < TOP)

    def unequal(left, right):
        return [key for key in keys if at(left, key) != at(right, key)]

    if stores[-1] != other_stores[-1]:
        return [("read", unequal(stores[-1], other_stores[-1])[0])]
    lefts, rights = {view[0]: view for view in views}, {view[0]: view for view in other_views}
    for name in range(100):
        left, right = lefts.get(name), rights.get(name)
        if left == right:
            continue
        if left is None or right is None:
            return [("ask", name, (left or right)[1])]
        if left[1:3] != right[1:3]:
            return [("ask", name, min(key for key in keys if (left[1] <= key < left[2]) != (right[1] <= key < right[2])))]
        return [("ask", name, unequal(left[3], right[3])[0])]
    if len(stores) != len(other_stores):
        return [("crash", max(len(stores), len(other_stores)) - 1)]
    for number, (left, right) in enumerate(zip(stores, other_stores)):
        if left != right:
            return [("crash", number), ("read", unequal(left, right)[0])]
    return None


class PartingTest(Raising, unittest.TestCase):
    def test_points_36_to_38_small_books(self):
        books = small_books()
        told = [[tuple(answers(book, future)) for future in FUTURES] for book in books]
        for (i, one), (j, other) in itertools.product(enumerate(books), repeat=2):
            steps = parting(one, other)
            self.assertIs(alike(one, other), i == j)
            self.assertEqual(told[i] == told[j], i == j)
            self.assertEqual(steps, slow_parting(one, other))
            if i == j:
                self.assertIsNone(steps)
                continue
            self.assertIn(steps, FUTURES)
            left, right = answers(one, steps), answers(other, steps)
            self.assertEqual(left[:-1], right[:-1])
            self.assertNotEqual(left[-1], right[-1])
            shorter = [at for at, future in enumerate(FUTURES) if len(future) < len(steps)]
            self.assertTrue(all(told[i][at] == told[j][at] for at in shorter))

    def test_points_37_and_38_random_books(self):
        rng = seeded(37)
        for kind in KINDS:
            for _ in range(40):
                one = random_book(rng, kind)
                other = one.twin()
                for step in random_steps(rng, rng.choice((1, 2, 9))):
                    other.answer(step)
                least = one.least_store(), other.least_store()
                steps = parting(one, other)
                self.assertEqual((one.least_store(), other.least_store()), least)
                self.assertEqual(steps, slow_parting(one, other))
                self.assertEqual(steps is None, least[0] == least[1])
                self.assertIs(alike(one, other), steps is None)
                if steps is not None:
                    self.assertIsInstance(steps, list)
                    left, right = answers(one, steps), answers(other, steps)
                    self.assertEqual(left[:-1], right[:-1])
                    self.assertNotEqual(left[-1], right[-1])

    def made(self, *stores, views=()):
        """Returns a book made of stores and views."""
        return Book.made("list", [list(stores), views], most=4)

    def test_point_37_the_first_that_applies(self):
        a, b, c = [(0, 4, (1,))], [(0, 3, (1,))], [(2, 4, (1,))]
        view, wide, none = (4, 1, 5, [(2, 3, (1,))]), (4, 1, 6, []), (4, 1, 5, [])
        for left, right, told in (
                (self.made(a), self.made(b), [("read", 3)]), (self.made(a), self.made(c), [("read", 0)]),
                (self.made(a, b, views=[view]), self.made(c), [("read", 0)]),
                (self.made(a, b, views=[view]), self.made(b), [("ask", 4, 1)]),
                (self.made(b, b), self.made(b, views=[view]), [("ask", 4, 1)]),
                (self.made(b, views=[view]), self.made(b, views=[none]), [("ask", 4, 2)]),
                (self.made(b, views=[view]), self.made(b, views=[wide]), [("ask", 4, 5)]),
                (self.made(b, views=[(4, 0, 5, [])]), self.made(b, views=[none]), [("ask", 4, 0)]),
                (self.made(b, views=[(4, 0, 2, [])]), self.made(b, views=[(4, 3, 9, [])]), [("ask", 4, 0)]),
                (self.made(b, views=[view, (7, 0, 1, [])]), self.made(b, views=[view, (9, 3, 4, [])]), [("ask", 7, 0)]),
                (self.made(b, views=[view, (9, 3, 4, [])]), self.made(b, views=[none, (7, 0, 1, [])]), [("ask", 4, 2)]),
                (self.made(b, views=[(3, 2, 4, []), view]), self.made(b, views=[none]), [("ask", 3, 2)]),
                (self.made(a, b), self.made(c, a, b), [("crash", 2)]), (self.made(b), self.made(c, a, b), [("crash", 2)]),
                (self.made(a, c, b), self.made(a, a, b), [("crash", 1), ("read", 0)]),
                (self.made(a, c, b), self.made(c, a, b), [("crash", 0), ("read", 0)]),
                (self.made([], c, b), self.made([], c, b), None),
                (self.made([], c, b), self.made([(TOP - 1, TOP, (0,))], c, b), [("crash", 0), ("read", TOP - 1)])):
            self.assertEqual(parting(left, right), told)
            self.assertEqual(parting(right, left), told)

    def test_other_books(self):
        for call in (parting, alike):
            self.raised(OtherBook, None, call, Book("list"), Book("bag"))
            self.raised(OtherBook, None, call, Book("list", most=3), Book("list", most=4))
            self.raised(OtherBook, None, call, Book("list", most=3), Book("set", most=4))
        self.assertIsNone(parting(Book("list", most=3), Book("list", most=3)))

    def test_point_36_equal_again_behind_each_row(self):
        rng = seeded(136)
        for kind in KINDS:
            one = random_book(rng, kind)
            other = Book.made(kind, one.least_store(), most=3)
            for step in random_steps(rng, 30):
                self.assertEqual(one.answer(step), other.answer(step))
                self.assertTrue(alike(one, other))


class AnswersTest(Raising, unittest.TestCase):
    def test_answers_of_a_book_that_does_not_change(self):
        rng = seeded(38)
        for kind in KINDS:
            book = random_book(rng, kind)
            least = book.least_store()
            steps = random_steps(rng, 20)
            told = answers(book, steps)
            self.assertIsInstance(told, list)
            self.assertEqual(answers(book, tuple(steps)), told)
            self.assertEqual(book.least_store(), least)
            self.assertEqual([book.answer(step) for step in steps], told)
        self.assertEqual(answers(Book("list"), []), [])

    def test_bad_steps(self):
        book = Book("list", most=1)
        book.write([])
        least = book.least_store()
        for thing in bad_steps():
            for row in ([thing], [("write", []), ("sync",), thing, thing], (("drop", 5), thing, ("read", 0))):
                place = [at for at, entry in enumerate(row) if entry is thing][0]
                self.raised(BadStep, [place], answers, book, row)
        self.assertEqual(book.least_store(), least)

    def test_example(self):
        one = Book.made("set", [[[], [(0, 3, (1,))], [(0, 3, (2,))]], []], most=2)
        other = Book.made("set", [[[], [(0, 1, (1,))], [(0, 3, (2,))]], []], most=2)
        steps = parting(one, other)
        self.assertEqual([steps, answers(one, steps), answers(other, steps)], [
            [("crash", 1), ("read", 1)], [("done",), ("word", (1,))], [("done",), ("word", ())]])

    def test_point_1_lists_are_new(self):
        one, other = Book("list"), Book("list")
        one.write([(0, 1, True, (1,))])
        parting(one, other).clear()
        self.assertEqual(parting(one, other), [("read", 0)])
        steps = [("read", 0)]
        answers(one, steps).clear()
        self.assertEqual((answers(one, steps), steps), ([("word", (1,))], [("read", 0)]))


if __name__ == "__main__":
    unittest.main()
