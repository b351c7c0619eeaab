"""Points 31, 35 and 39 to 42: least stores, their losses and made histories."""

import inspect
import itertools
import unittest

from leastshelf import leasts
from leastshelf.books import Book
from leastshelf.deeds import narrowed_step
from leastshelf.errors import BadKind, BadLeast, BadLimit
from leastshelf.futures import answers
from leastshelf.kinds import parted_words, under
from leastshelf.leasts import check_most, history_of, losses, narrowed_least, plain_least
from samples import KINDS, ODD_VALUES, TOP, Raising, plain, random_steps, seeded

STORE = ((0, 2, (1,)), (2, 4, (2,)), (7, TOP, (0, 999999999)))
LEAST = ((STORE, ()), ((0, 1, 5, ((1, 2, (1,)), (3, 5, (2,)))), (7, 999999, TOP, ()), (99, 0, TOP, STORE)))
BAD_LIMITS = ODD_VALUES + (0, 9, "3", (3,), [3])


def as_lists(least):
    """Returns a least store with lists in the place of all its tuples but the words."""
    stores, views = least
    return [[[list(piece) for piece in store] for store in stores],
            [[name, a, b, [list(piece) for piece in pieces]] for name, a, b, pieces in views]]


def random_book(rng, kind, most=3, many=14):
    """Returns a book behind some steps."""
    book = Book(kind, most=most)
    for step in random_steps(rng, many):
        book.answer(step)
    return book


def tuples_throughout(thing):
    """Returns True if a value has tuples alone, as deep as it goes."""
    return not isinstance(thing, list) and (not isinstance(thing, tuple) or all(map(tuples_throughout, thing)))


class LeastTest(Raising, unittest.TestCase):
    def test_point_31_limits(self):
        for most in range(1, 9):
            self.assertEqual(check_most(most), most)
        for thing in BAD_LIMITS:
            self.raised(BadLimit, [thing], check_most, thing)
            self.raised(BadLimit, [thing], plain_least, "list", None, most=thing)

    def test_point_35_lists_and_tuples(self):
        for least in (LEAST, ((STORE,), ()), (((),), ()), (((), (), ()), ((5, 0, 1, ()),))):
            for given in (least, as_lists(least), (least[0], as_lists(least)[1]), [as_lists(least)[0], least[1]]):
                told = plain_least("list", given)
                self.assertEqual(told, least)
                self.assertTrue(tuples_throughout(told))

    def test_point_35_number_of_stores(self):
        for most in range(1, 9):
            for many in range(11):
                least = (((),) * many, ())
                if 1 <= many <= most + 1:
                    self.assertEqual(plain_least("bag", least, most=most), least)
                else:
                    self.raised(BadLeast, None, plain_least, "bag", least, most=most)
        self.assertEqual(len(plain_least("bag", (((),) * 9, ()))[0]), 9)
        self.raised(BadLeast, None, plain_least, "bag", (((),) * 10, ()))

    def test_point_35_plain_words_alone(self):
        for kind, word in itertools.product(KINDS, ((1, 2), (2, 1), (1, 1), (1,), (1, 2, 3), (1, 2, 1))):
            for least in ((([(0, 1, word)],), ()), (((),), [(3, 0, 1, [(0, 1, word)])])):
                if plain(kind, word) == word:
                    self.assertTrue(tuples_throughout(plain_least(kind, least)))
                else:
                    self.raised(BadLeast, None, plain_least, kind, least)

    def bad_pieces(self):
        """Returns values that are no rows of pieces of a store."""
        rows = [[(0, 1, ())], [(3, 4, ())], [(0, 1, (1,)), (3, 4, ())], [(0, 1, [1])], [(0, 0, (1,))], [(1, 0, (1,))], [(0, TOP + 1, (1,))], [(-1, 1, (1,))],
                [(0, 1)], [(0, 1, (1,), 2)], [((0, 1), (1,))], [(0, True, (1,))], [(False, 1, (1,))], [(0, 1, (-1,))],
                [(0, 1, (True,))], [(0, 1, (1,)), (1, 2, (1,))], [(0, 2, (1,)), (1, 3, (2,))],
                [(4, 5, (1,)), (0, 1, (1,))], [(0, 1, (1,)), (0, 1, (1,))], [(0, 1, None)], [(0, 1.0, (1,))], [()],
                [(0, 1, (1,)), (2, 3, (1,)), (3, 4, (1,))], [(0, 1, (10 ** 9,))], [("0", "1", (1,))], "ab", 5]
        return rows + list(ODD_VALUES) + [[thing] for thing in ODD_VALUES]

    def test_point_35_bad_pieces(self):
        for pieces in self.bad_pieces():
            for least in (((pieces,), ()), (((), pieces), ()), ([STORE, pieces, ()], []), ((STORE,), ((5, 0, TOP, pieces),))):
                self.raised(BadLeast, None, plain_least, "list", least)
                self.raised(BadLeast, None, Book.made, "list", least)
                self.raised(BadLeast, None, history_of, "list", least)
                self.raised(BadLeast, None, list_of_losses, "list", least)
                self.raised(BadLeast, None, narrowed_least, "set", least)

    def test_point_35_bad_views(self):
        views = [(5, 2, 4, ((1, 3, (1,)),)), (5, 2, 4, ((3, 5, (1,)),)), (5, 2, 4, ((2, 5, (1,)),)), (5, 2, 4), (5, 4, 4, ()),
                 (5, 4, 2, ()), (5, 0, TOP + 1, ()), (100, 0, 1, ()), (-1, 0, 1, ()), (True, 0, 1, ()), ("5", 0, 1, ()),
                 (5, 0, 1, (), ()), (5, (0, 1), ()), (5, 0, True, ()), (5, -1, 1, ()), (5, 0, 1, None), ()]
        for view in views + list(ODD_VALUES):
            for row in ([view], ((3, 0, 1, ()), view), [view, (99, 0, 1, ())]):
                self.raised(BadLeast, None, plain_least, "list", ((STORE,), row))
        for names in ((3, 3), (4, 3), (0, 5, 5), (0, 9, 5)):
            self.raised(BadLeast, None, plain_least, "list", ((STORE,), [(name, 0, 1, ()) for name in names]))
        self.assertEqual(len(plain_least("list", ((STORE,), [(name, 0, 1, ()) for name in range(100)]))[1]), 100)

    def test_point_35_bad_values(self):
        for thing in ODD_VALUES + ((), [], ((STORE,),), ((STORE,), (), ()), [[STORE], [], []], ((), ()), "ab", 5, (5, ()),
                                   ((STORE,), 5), ("", ()), ((STORE,), ""), ((STORE,), {}), ({}, ()), (None, None)):
            self.raised(BadLeast, None, plain_least, "list", thing)
            self.raised(BadLeast, None, narrowed_least, "list", thing)
            self.raised(BadLeast, None, history_of, "list", thing)
            self.raised(BadLeast, None, list_of_losses, "list", thing)
            self.raised(BadLeast, None, Book.made, "list", thing)

    def test_errors_in_their_order(self):
        self.bad_kinds(BadKind, plain_least, None, most=0)
        self.bad_kinds(BadKind, history_of, None)
        self.bad_kinds(BadKind, list_of_losses, None)
        self.bad_kinds(BadKind, narrowed_least, None)
        self.bad_kinds(BadKind, Book.made, None, most=None)
        self.raised(BadLimit, [0], Book.made, "list", None, most=0)
        nine = (((),) * 9, ())
        self.assertEqual(history_of("set", nine)[-1], ("write", ()))
        self.assertEqual(len(list_of_losses("set", nine)), 1)
        self.assertEqual(narrowed_least("set", nine), nine)
        for call in (history_of, list_of_losses, narrowed_least):
            self.raised(BadLeast, None, call, "set", (((),) * 10, ()))

    def test_point_35_least_store_of_a_book(self):
        rng = seeded(35)
        for kind in KINDS:
            for _ in range(20):
                least = random_book(rng, kind).least_store()
                self.assertTrue(tuples_throughout(least))
                self.assertEqual(plain_least(kind, least, most=3), least)


def list_of_losses(kind, least):
    """Returns the list of the losses."""
    return list(losses(kind, least))


class HistoryTest(Raising, unittest.TestCase):
    def test_point_41_leads_to_the_least_store(self):
        rng = seeded(41)
        for kind in KINDS:
            for _ in range(20):
                least = random_book(rng, kind).least_store()
                history = history_of(kind, as_lists(least))
                self.assertIsInstance(history, list)
                self.assertTrue(all(tuples_throughout(step) for step in history))
                book = Book(kind, most=max(1, len(least[0]) - 1))
                self.assertEqual([book.answer(step) for step in history], [("done",)] * len(history))
                self.assertEqual(book.least_store(), least)

    def test_point_41_as_it_is_said(self):
        least = ((((0, 2, (1,)),), ((0, 2, (1,)), (4, 5, (2,)))), ((3, 0, 4, ((1, 2, (7,)),)), (8, 0, 1, ())))
        self.assertEqual(history_of("list", least), [
            ("write", ((1, 2, True, (7,)),)), ("sync",), ("hold", 3, 0, 4),
            ("write", ((1, 2, True, ()),)), ("sync",), ("hold", 8, 0, 1),
            ("write", ((0, 2, True, (1,)),)), ("sync",), ("write", ((4, 5, True, (2,)),)),
        ])
        self.assertEqual(history_of("bag", (((),), ())), [("write", ()), ("sync",)])
        self.assertEqual(history_of("bag", (((), ()), ())), [("write", ()), ("sync",), ("write", ())])


class LossesTest(Raising, unittest.TestCase):
    def test_point_39_as_it_is_said(self):
        first, last = ((0, 2, (1,)), (5, 6, (2,))), ((3, 9, (4,)),)
        view, small = (3, 1, 4, ((1, 2, (8,)), (2, 3, (9,)))), (9, 6, 7, ())
        unknown = ("refused", "unknown")
        said = [
            (((first[1:], last), (view, small)), [("crash", 0), ("read", 0)], ("word", (1,)), ("word", ())),
            (((first[:1], last), (view, small)), [("crash", 0), ("read", 5)], ("word", (2,)), ("word", ())),
            (((first, ()), (view, small)), [("read", 3)], ("word", (4,)), ("word", ())),
            (((first, last), ((3, 1, 4, ((2, 3, (9,)),)), small)), [("ask", 3, 1)], ("word", (8,)), ("word", ())),
            (((first, last), ((3, 1, 4, ((1, 2, (8,)),)), small)), [("ask", 3, 2)], ("word", (9,)), ("word", ())),
            (((first, last), (small,)), [("ask", 3, 1)], ("word", (8,)), unknown),
            (((first, last), (small,)), [("ask", 3, 3)], ("word", ()), unknown),
            (((first, last), (view,)), [("ask", 9, 6)], ("word", ()), unknown),
            (((first,), (view, small)), [("crash", 1)], ("done",), ("refused", "fewer")),
        ]
        least = ((first, last), (view, small))
        self.assertEqual(list(losses("list", least)), said)
        self.assertEqual(list(losses("list", as_lists(least))), said)

    def test_point_39_futures_tell_the_losses(self):
        rng = seeded(39)
        for kind in KINDS:
            for _ in range(12):
                least = random_book(rng, kind).least_store()
                pieces = [piece for store in least[0] for piece in store]
                pieces += [piece for view in least[1] for piece in view[3]]
                wide = [2 if b - a > 1 else 1 for _, a, b, _ in least[1]]
                told = list(losses(kind, least))
                self.assertEqual(len(told), len(pieces) + sum(wide) + (len(least[0]) > 1))
                for left, future, due, lost in told:
                    self.assertTrue(tuples_throughout(left))
                    self.assertIsInstance(future, list)
                    self.assertNotEqual(plain_least(kind, left), least)
                    self.assertEqual(answers(Book.made(kind, least), future)[-1], due)
                    self.assertEqual(answers(Book.made(kind, left), future)[-1], lost)
                    self.assertNotEqual(due, lost)

    def test_point_39_one_store(self):
        self.assertEqual(list(losses("list", (((),), ()))), [])
        told = list(losses("list", ((STORE,), ())))
        self.assertEqual([future for _, future, _, _ in told], [[("read", 0)], [("read", 2)], [("read", 7)]])

    def test_losses_is_a_generator(self):
        self.assertTrue(inspect.isgeneratorfunction(leasts.losses))
        made = losses("list", None)
        self.raised(BadLeast, None, next, made)
        made = losses("no kind", LEAST)
        self.raised(BadKind, ["no kind"], next, made)

    def test_example(self):
        told = [
            ((((), ()), ()), [("crash", 0), ("read", 0)], ("word", (5,)), ("word", ())),
            (((((0, 2, (5,)),),), ()), [("crash", 1)], ("done",), ("refused", "fewer")),
        ]
        self.assertEqual(list(losses("list", [[[(0, 2, (5,))], []], []])), told)


class NarrowedTest(Raising, unittest.TestCase):
    def test_point_42_narrowed(self):
        rng = seeded(42)
        for fine, coarse in itertools.product(KINDS, repeat=2):
            if not under(fine, coarse):
                continue
            for _ in range(8):
                steps = random_steps(rng, 16)
                one, other = Book(coarse, most=2), Book(fine, most=2)
                told = [one.answer(step) for step in steps]
                narrowed = [(answer[0], plain(fine, answer[1])) if answer[0] == "word" else answer for answer in told]
                self.assertEqual([other.answer(narrowed_step(fine, step)) for step in steps], narrowed)
                least = narrowed_least(fine, one.least_store())
                self.assertEqual(least, other.least_store())
                self.assertEqual(narrowed_least(fine, as_lists(one.least_store())), least)
                self.assertTrue(tuples_throughout(least))

    def test_point_42_not_under(self):
        for one, other in itertools.product(KINDS, repeat=2):
            if under(one, other):
                continue
            pair = parted_words(one, other)
            for kind in (one, other):
                books = [Book(kind), Book(kind)]
                for book, word in zip(books, pair):
                    book.write([(3, 8, True, word)])
                alike = books[0].least_store() == books[1].least_store()
                self.assertEqual(alike, kind == other)

    def test_point_42_pieces_are_joined(self):
        least = ((((0, 1, (1, 2)), (1, 2, (2, 1))),), ((4, 0, 2, ((0, 1, (3,)), (1, 2, (3, 3)))),))
        self.assertEqual(narrowed_least("set", least), ((((0, 2, (1, 2)),),), ((4, 0, 2, ((0, 2, (3,)),)),)))
        self.assertEqual(narrowed_least("list", least), least)
        self.assertEqual(narrowed_least("last", least)[0], (((0, 1, (2,)), (1, 2, (1,))),))


class NewListsTest(unittest.TestCase):
    def test_point_1_arguments_and_results(self):
        given = as_lists(LEAST)
        told = plain_least("list", given)
        history = history_of("list", given)
        book = Book.made("list", given)
        rows = list(losses("list", given))
        self.assertEqual(given, as_lists(LEAST))
        given[0][0].clear()
        given[1].clear()
        self.assertEqual((told, book.least_store()), (LEAST, LEAST))
        again = list(history)
        history.clear()
        self.assertEqual(history_of("list", LEAST), again)
        rows[0][1].clear()
        self.assertEqual(next(losses("list", LEAST))[1], [("crash", 0), ("read", 0)])


class Point40Test(unittest.TestCase):
    """The two rows of deeds in each line of point 40 lead to equal least stores."""

    def same(self, book, one, other):
        """Both rows of deeds, none of them refused, lead the book to equal least stores."""
        told = []
        for row in (one, other):
            twin = book.twin()
            self.assertEqual([twin.answer(step) for step in row], [("done",)] * len(row))
            told.append(twin.least_store())
        self.assertEqual(*told)

    def test_point_40(self):
        rng = seeded(40)
        for kind in KINDS:
            for _ in range(12):
                book = Book(kind, most=8)
                for step in random_steps(rng, 8):
                    book.answer(step)
                for name in book.names():
                    book.drop(name)
                rows = [step[1] for step in random_steps(rng, 30) if step[0] == "write"]
                b, c = rows[0], rows[1]
                self.same(book, [("write", b), ("write", c), ("sync",)], [("write", b + c), ("sync",)])
                self.same(book, [("write", ()), ("sync",)], [("sync",)])
                holds = [("hold", 5, 0, 4), ("hold", 6, 2, 9)]
                self.same(book, holds, holds[::-1])
                between = [("write", b), ("hold", 6, 1, 3), ("sync",), ("write", c), ("narrow", 6, 2, 3)]
                self.same(book, [holds[0], *between, ("drop", 5)], between)
                self.same(book, [holds[0], ("narrow", 5, 1, 4), ("narrow", 5, 2, 4)], [holds[0], ("narrow", 5, 2, 4)])
                for number in range(book.loose + 1):
                    self.same(book, [("write", b), ("crash", number)], [("crash", number)])


if __name__ == "__main__":
    unittest.main()
