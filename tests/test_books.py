"""Points 31 to 36: books, their steps, answers and refusals."""

import unittest

from leastshelf.books import Book
from leastshelf.errors import (
    BadKind, BadLimit, BadStep, Fewer, Loose, Outside, Taken, Unknown,
)
from samples import KINDS, ODD_VALUES, TOP, Raising, makes, plain, random_batch, random_steps, seeded
from test_batches import BAD_STROKES
from test_deeds import BAD_KEYS, BAD_NAMES, BAD_NUMBERS, bad_steps
from test_leasts import BAD_LIMITS, as_lists, random_book
from test_stretches import BAD_STRETCHES

KEYS = (*range(12), TOP - 1)


class SlowBook:
    """A book that keeps a word for each of the sample keys, as points 31 to 33 say it."""

    def __init__(self, kind, most):
        self.kind, self.most, self.stores, self.views = kind, most, [{key: () for key in KEYS}], {}

    def answer(self, step):
        reason = self.reason(step)
        if reason is not None:
            return ("refused", reason)
        if step[0] == "read":
            return ("word", self.stores[-1][step[1]])
        if step[0] == "ask":
            return ("word", self.views[step[1]][2][step[2]])
        getattr(self, step[0])(*step[1:])
        return ("done",)

    def reason(self, step):
        if step[0] == "write":
            return "loose" if len(self.stores) - 1 == self.most else None
        if step[0] == "crash":
            return "fewer" if len(self.stores) - 1 < step[1] else None
        if step[0] == "hold":
            return "taken" if step[1] in self.views else None
        if step[0] in ("narrow", "drop", "ask"):
            if step[1] not in self.views:
                return "unknown"
            a, b, _ = self.views[step[1]]
            if (step[0] == "ask" and not a <= step[2] < b) or (step[0] == "narrow" and not a <= step[2] < step[3] <= b):
                return "outside"
        return None

    def write(self, batch):
        store = dict(self.stores[-1])
        for a, b, clear, word in batch:
            for key in KEYS:
                if a <= key < b:
                    store[key] = makes(self.kind, (clear, plain(self.kind, word)), store[key])
        self.stores.append(store)

    def sync(self):
        self.stores = self.stores[-1:]

    def crash(self, number):
        self.stores, self.views = [self.stores[number]], {}

    def hold(self, name, a, b):
        self.views[name] = (a, b, dict(self.stores[-1]))

    def narrow(self, name, a, b):
        self.views[name] = (a, b, self.views[name][2])

    def drop(self, name):
        del self.views[name]


class StepsTest(Raising, unittest.TestCase):
    def same(self, book, slow):
        """The book has what the slow book has."""
        self.assertEqual(book.loose, len(slow.stores) - 1)
        self.assertEqual(book.names(), sorted(slow.views))
        stores, views = book.least_store()
        for pieces, store in zip(stores, slow.stores):
            self.assertEqual({key: at(pieces, key) for key in KEYS}, store)
        self.assertEqual([view[:3] for view in views], [(name, *slow.views[name][:2]) for name in sorted(slow.views)])
        for name, a, b, pieces in views:
            inside = {key: word for key, word in slow.views[name][2].items() if a <= key < b}
            self.assertEqual({key: at(pieces, key) for key in inside}, inside)
            self.assertTrue(all(a <= c < d <= b for c, d, _ in pieces))

    def test_points_32_and_33_answers(self):
        rng = seeded(33)
        met = set()
        for kind in KINDS:
            for most in (1, 2, 8):
                book, slow = Book(kind, most=most), SlowBook(kind, most)
                for step in random_steps(rng, 120):
                    least = book.least_store()
                    told = book.answer(step)
                    self.assertEqual(told, slow.answer(step))
                    met.add((step[0], told[0], told[1] if told[0] == "refused" else None))
                    if told[0] != "done":
                        self.assertEqual(book.least_store(), least)
                    self.same(book, slow)
        refusals = {("write", "loose"), ("crash", "fewer"), ("hold", "taken"), ("narrow", "unknown"), ("narrow", "outside"),
                    ("drop", "unknown"), ("ask", "unknown"), ("ask", "outside")}
        self.assertEqual({(word, reason) for word, told, reason in met if told == "refused"}, refusals)

    def test_point_33_methods(self):
        rng = seeded(133)
        errors = {"loose": (Loose, None), "fewer": (Fewer, 1), "taken": (Taken, 1), "unknown": (Unknown, 1),
                  "outside": (Outside, 1)}
        for kind in KINDS:
            book, other = Book(kind, most=2), Book(kind, most=2)
            for step in random_steps(rng, 150):
                told = book.answer(step)
                call = getattr(other, step[0])
                if told[0] == "refused":
                    error, place = errors[told[1]]
                    self.raised(error, None if place is None else [step[place]], call, *step[1:])
                elif told[0] == "word":
                    self.assertEqual(call(*step[1:]), told[1])
                else:
                    self.assertIsNone(call(*step[1:]))
                self.assertEqual(other.least_store(), book.least_store())

    def test_point_33_bad_steps_change_nothing(self):
        book = Book("heads", most=1)
        book.write([(0, 4, True, (1,))])
        book.hold(1, 0, 3)
        least = book.least_store()
        for thing in bad_steps():
            self.raised(BadStep, [0], book.answer, thing)
            self.assertEqual(book.least_store(), least)

    def test_point_33_bad_arguments_ahead_of_refusals(self):
        book = Book("heads", most=1)
        book.write([(0, 4, True, (1,))])
        book.hold(1, 0, 3)
        least = book.least_store()
        for thing in ODD_VALUES + tuple([one] for one in BAD_STROKES) + (5, {}):
            self.raised(BadStep, [0], book.write, thing)
        for thing in BAD_NUMBERS:
            self.raised(BadStep, [0], book.crash, thing)
        for name in BAD_NAMES:
            self.raised(BadStep, [0], book.drop, name)
            self.raised(BadStep, [0], book.view, name)
            self.raised(BadStep, [0], book.ask, name, 1)
            self.raised(BadStep, [0], book.hold, name, 1, 2)
            self.raised(BadStep, [0], book.narrow, name, 1, 2)
        for key in BAD_KEYS:
            self.raised(BadStep, [0], book.read, key)
            self.raised(BadStep, [0], book.ask, 1, key)
            self.raised(BadStep, [0], book.ask, 7, key)
        for stretch in BAD_STRETCHES:
            if isinstance(stretch, tuple) and len(stretch) == 2:
                self.raised(BadStep, [0], book.hold, 1, *stretch)
                self.raised(BadStep, [0], book.narrow, 7, *stretch)
        self.assertEqual(book.least_store(), least)

    def test_each_refusal(self):
        book = Book("set", most=1)
        book.write([(0, 4, True, (1,))])
        book.hold(1, 2, 5)
        least = book.least_store()
        for error, value, reason, step in (
                (Loose, None, "loose", ("write", ())), (Fewer, [2], "fewer", ("crash", 2)),
                (Taken, [1], "taken", ("hold", 1, 0, 1)), (Unknown, [0], "unknown", ("narrow", 0, 0, TOP)),
                (Outside, [1], "outside", ("narrow", 1, 2, 6)), (Outside, [1], "outside", ("narrow", 1, 1, 5)),
                (Unknown, [99], "unknown", ("drop", 99)), (Unknown, [2], "unknown", ("ask", 2, 0)),
                (Outside, [1], "outside", ("ask", 1, 1)), (Outside, [1], "outside", ("ask", 1, 5))):
            self.assertEqual(book.answer(step), ("refused", reason))
            self.raised(error, value, getattr(book, step[0]), *step[1:])
            self.assertEqual(book.least_store(), least)
        self.assertEqual([book.ask(1, 2), book.ask(1, 4)], [(1,), ()])
        book.narrow(1, 2, 5)
        self.assertEqual(book.least_store(), least)


def at(pieces, key):
    """Returns the word that pieces give to a key."""
    return next((word for a, b, word in pieces if a <= key < b), ())


class BookTest(Raising, unittest.TestCase):
    def test_point_31_new_books(self):
        for kind in KINDS:
            for most in range(1, 9):
                book = Book(kind, most=most)
                self.assertEqual((book.kind, book.most, book.loose), (kind, most, 0))
                self.assertEqual((book.store(), book.names(), book.least_store()), ([], [], (((),), ())))
            self.assertEqual(Book(kind).most, 8)

    def test_point_31_limits(self):
        self.bad_kinds(BadKind, Book)
        self.bad_kinds(BadKind, Book, most=0)
        for thing in BAD_LIMITS:
            self.raised(BadLimit, [thing], Book, "list", most=thing)
        for most in range(1, 9):
            book = Book("list", most=most)
            for number in range(most):
                book.write([(number, number + 1, True, (1,))])
                self.assertEqual(book.loose, number + 1)
            self.raised(Loose, None, book.write, [])
            self.assertEqual(book.answer(("write", ())), ("refused", "loose"))
            book.crash(most)
            self.assertEqual((book.loose, book.store()), (0, [(0, most, (1,))]))
            self.raised(Fewer, [1], book.crash, 1)

    def test_point_32_words_that_are_not_plain(self):
        for kind in KINDS:
            book = Book(kind)
            book.write([(0, 4, False, (2, 1, 2)), (2, 4, False, (1, 3))])
            self.assertEqual((book.read(0), book.read(3)), (plain(kind, (2, 1, 2)), plain(kind, (2, 1, 2, 1, 3))))

    def test_point_34_stores_of_a_row_of_writes(self):
        rng = seeded(34)
        for kind in KINDS:
            book = Book(kind)
            book.write(random_batch(rng))
            book.sync()
            batches = [random_batch(rng) for _ in range(6)]
            told = [book.store()]
            for batch in batches:
                book.write(batch)
                told.append(book.store())
            self.assertEqual([list(pieces) for pieces in book.least_store()[0]], told)
            for number in range(7):
                twin = book.twin()
                twin.crash(number)
                self.assertEqual((twin.store(), twin.loose, twin.names()), (told[number], 0, []))

    def test_point_34_views_keep_their_states(self):
        book = Book("list")
        book.write([(0, TOP, True, (1,))])
        book.hold(0, 0, TOP)
        book.hold(99, 5, 6)
        book.write([(3, 8, False, (2,))])
        book.hold(50, 2, 9)
        book.sync()
        book.write([(0, TOP, True, ())])
        self.assertEqual(book.view(0), (0, TOP, [(0, TOP, (1,))]))
        self.assertEqual(book.view(99), (5, 6, [(5, 6, (1,))]))
        self.assertEqual(book.view(50), (2, 9, [(2, 3, (1,)), (3, 8, (1, 2)), (8, 9, (1,))]))
        book.narrow(50, 7, 9)
        self.assertEqual(book.view(50), (7, 9, [(7, 8, (1, 2)), (8, 9, (1,))]))
        self.assertEqual(book.names(), [0, 50, 99])
        book.drop(50)
        self.assertEqual(book.names(), [0, 99])
        self.raised(Unknown, [50], book.view, 50)
        book.hold(50, 2, 9)
        self.assertEqual(book.view(50), (2, 9, []))
        book.crash(0)
        self.assertEqual(book.names(), [])
        self.raised(Unknown, [0], book.ask, 0, 0)

    def test_point_36_made(self):
        rng = seeded(36)
        for kind in KINDS:
            for _ in range(12):
                book = random_book(rng, kind)
                least = book.least_store()
                for given in (least, as_lists(least)):
                    made = Book.made(kind, given, most=3)
                    self.assertEqual((made.least_store(), made.kind, made.most), (least, kind, 3))
                    self.assertIsInstance(made, Book)
                self.assertEqual(Book.made(kind, least).most, 8)
                for step in random_steps(rng, 12):
                    self.assertEqual(made.answer(step), book.answer(step))
                    self.assertEqual(made.least_store(), book.least_store())

    def test_twin(self):
        rng = seeded(136)
        for kind in KINDS:
            book = random_book(rng, kind)
            least = book.least_store()
            twin = book.twin()
            self.assertIsInstance(twin, Book)
            self.assertEqual((twin.kind, twin.most, twin.least_store()), (kind, 3, least))
            twin.crash(0)
            twin.write([(0, 5, True, (7,))])
            twin.hold(42, 0, 3)
            self.assertEqual(book.least_store(), least)
            other = book.twin()
            for step in random_steps(rng, 10):
                book.answer(step)
            self.assertEqual(other.least_store(), least)

    def test_example(self):
        book = Book("heads", most=2)
        book.write([(0, 4, True, (7,)), (2, 6, False, (5, 7))])
        book.hold(3, 1, 5)
        book.sync()
        book.write([(0, 1000000, True, ())])
        least = ((((0, 2, (7,)), (2, 4, (7, 5)), (4, 6, (5, 7))), ()),
                 ((3, 1, 5, ((1, 2, (7,)), (2, 4, (7, 5)), (4, 5, (5, 7)))),))
        told = [book.answer(("ask", 3, 4)), book.answer(("ask", 3, 5)), book.read(2), book.least_store()]
        self.assertEqual(told, [("word", (5, 7)), ("refused", "outside"), (), least])
        self.raised(Fewer, [1], Book("heads", most=2).crash, 1)

    def test_point_1_arguments_and_results(self):
        book = Book("list")
        batch = [(0, 4, True, (1,))]
        book.write(batch)
        batch[0] = (0, 4, True, (9,))
        batch.append((5, 6, True, (9,)))
        book.hold(3, 0, 2)
        least = book.least_store()
        book.store().clear()
        book.names().clear()
        book.view(3)[2].append((0, 1, (5,)))
        self.assertEqual(book.least_store(), least)
        self.assertEqual(book.least_store(), (((), ((0, 4, (1,)),)), ((3, 0, 2, ((0, 2, (1,)),)),)))
        self.assertEqual(batch, [(0, 4, True, (9,)), (5, 6, True, (9,))])


if __name__ == "__main__":
    unittest.main()
