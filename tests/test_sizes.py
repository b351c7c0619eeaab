"""Point 0.5: everything holds up to the sizes that it names."""

import unittest

from leastshelf.batches import after, batch_between, batch_effects, narrowed_batch, narrowed_field, on_store, touched
from leastshelf.books import Book
from leastshelf.classes import class_numbers, least_table, parting_row, without_steps
from leastshelf.fields import Field
from leastshelf.futures import alike, answers, parting
from leastshelf.kinds import joined, plain_word, rest
from leastshelf.leasts import history_of, losses, narrowed_least, plain_least
from leastshelf.menus import Menu
from leastshelf.overlays import gaps, key_set, meeting, overlay, union, unlike, without
from leastshelf.steps import row_letters, running, steps_between
from leastshelf.swaps import change_places, swallowed
from leastshelf.tables import reached, run_table
from samples import KINDS, TOP, plain

LONG = tuple((7 * at * at + at) % 41 for at in range(60))


def long_word(number):
    """Returns a word of 60 letters."""
    return tuple(letter + number for letter in LONG)


class WordsTest(unittest.TestCase):
    def test_long_words(self):
        for kind in KINDS:
            row = [long_word(at) for at in range(66)]
            told = joined(kind, *row)
            self.assertEqual(told, plain(kind, [letter for word in row for letter in word]))
            self.assertLessEqual(len(told), 4000)
            start = joined(kind, *row[:33])
            behind = rest(kind, start, told)
            if behind is not None:
                self.assertEqual(joined(kind, start, behind), told)
            self.assertIs(swallowed(kind, start, told), kind in ("set", "tails", "last"))

    def test_long_rests_under_tails(self):
        one, other = tuple(range(2000)), tuple(range(1000)) + tuple(range(2000, 4000)) + tuple(range(1000, 2000))
        self.assertEqual(rest("tails", one, other), other[1000:])
        self.assertEqual(rest("list", one, one + other[:2000]), other[:2000])
        self.assertEqual(rest("bag", one, tuple(range(4000))), tuple(range(2000, 4000)))

    def test_long_rows_of_effects(self):
        for kind in KINDS:
            row = [(at % 20 == 19, plain_word(kind, long_word(at))) for at in range(60)]
            told = running(kind, row)
            steps = steps_between(kind, told)
            self.assertEqual(running(kind, steps), told)
            self.assertLessEqual(row_letters(steps), row_letters(row))
            self.assertIsInstance(change_places(kind, row[0], row[1]), bool)


class FieldsTest(unittest.TestCase):
    def test_fields_of_400_pieces(self):
        one = Field((), [(3 * at, 3 * at + 2, (at % 7,)) for at in range(400)])
        other = Field((), [(3 * at + 1, 3 * at + 3, (at % 5,)) for at in range(400)])
        self.assertEqual((len(one), one.size, one.at(1198), one.at(1199)), (400, 800, (0,), ()))
        self.assertEqual(len(list(gaps([one, other]))), 1200)
        self.assertEqual(len(overlay([one, other] * 12, lambda things: things[0], neutral=())), 400)
        self.assertEqual(unlike(one, one.painted(1198, TOP, (9,))), (1198, (0,), (9,)))
        told = batch_between("list", one, other)
        self.assertEqual(on_store("list", batch_effects("list", told[:40]), one).within(0, told[39][1]),
                         other.within(0, told[39][1]))
        self.assertEqual(len(narrowed_field("list", one)), 400)

    def test_key_sets_of_60_stretches(self):
        one, other = key_set([(9 * at, 9 * at + 5) for at in range(60)]), key_set([(9 * at + 4, 9 * at + 7) for at in range(60)])
        self.assertEqual((len(union(one, other)), without(one, other).size, meeting(one, other)), (60, 240, 4))

    def test_batches_of_40_strokes(self):
        batch = [(at, 900000 + 7 * at, at % 13 == 12, long_word(at)) for at in range(40)]
        for kind in KINDS:
            effects = batch_effects(kind, batch)
            self.assertLessEqual(len(effects), 79)
            for key in (0, 5, 39, 500000, 900100):
                said = ()
                for a, b, clear, word in batch:
                    if a <= key < b:
                        said = plain(kind, word) if clear else plain(kind, said + word)
                self.assertEqual(on_store(kind, effects, Field(())).at(key), said)
            self.assertEqual(after(kind, effects, Field((False, ()))), effects)
            self.assertEqual(narrowed_batch(kind, narrowed_batch(kind, batch)), narrowed_batch(kind, batch))
        self.assertEqual(touched(batch).pieces(), [(0, 900273, True)])


class BooksTest(unittest.TestCase):
    def full_book(self, kind):
        """Returns a book with 8 loose batches and 40 live views."""
        book = Book(kind)
        book.write([(50 * at, 50 * at + 30, True, long_word(at)) for at in range(40)])
        book.sync()
        for number in range(8):
            for name in range(5):
                book.hold(11 * number + name, 10 * name, TOP - number)
            book.write([(50 * at + number, 50 * at + 40, False, long_word(at + number)) for at in range(40)])
        return book

    def test_books(self):
        for kind in ("list", "ends", "tails"):
            book = self.full_book(kind)
            self.assertEqual((book.loose, len(book.names())), (8, 40))
            self.assertEqual(book.answer(("write", ())), ("refused", "loose"))
            least = book.least_store()
            self.assertEqual(plain_least(kind, least), least)
            made = Book.made(kind, least)
            self.assertTrue(alike(book, made))
            again = Book(kind)
            self.assertEqual(answers(again, history_of(kind, least))[-1], ("done",))
            self.assertEqual(sum(1 for loss in losses(kind, least)),
                             sum(map(len, least[0])) + sum(len(view[3]) + 2 for view in least[1]) + 1)
            made.drop(48)
            self.assertEqual(parting(book, made), [("ask", 48, 40)])
            self.assertEqual(len(narrowed_least(kind, least)[1]), 40)

    def test_60_steps_of_a_future(self):
        book = self.full_book("tails")
        steps = [("read", 50 * at) for at in range(20)] + [("ask", 44, 50 * at) for at in range(20)] + [("crash", 7)]
        steps += [("write", [(at, at + 9, False, long_word(at))]) for at in range(19)]
        told = answers(book, steps)
        self.assertEqual((len(told), told[41:]), (60, [("done",)] * 8 + [("refused", "loose")] * 11))


class MenusTest(unittest.TestCase):
    def test_menus_of_24_steps_and_400_states(self):
        steps = [("write", ((0, 1, True, (letter,)),)) for letter in range(19)]
        steps += [("sync",), ("read", 0), ("read", 5), ("crash", 1), ("crash", 0)]
        menu = Menu("set", steps, most=1)
        self.assertEqual((len(menu), len(menu.steps()), menu.full_pair()), (400, 24, None))
        table = menu.table()
        self.assertEqual(class_numbers(table), list(range(400)))
        self.assertEqual(least_table(table), table)
        self.assertEqual(len(run_table(table, [at % 24 for at in range(60)])), 60)
        self.assertEqual(len(parting_row(table, 398, 399)), 1)
        self.assertEqual(len(least_table(without_steps(table, list(range(20))))), 1)

    def test_tables_of_400_states(self):
        ring = [[(("a",), (at + 1) % 400), (("b",) if at == 399 else ("a",), at)] for at in range(400)]
        self.assertEqual(class_numbers(ring), list(range(400)))
        self.assertEqual(parting_row(ring, 0, 1), [0] * 398 + [1])
        self.assertEqual(list(reached(ring))[399], (399, [0] * 399))
        unlike_answers = [[((str(at), [number]), at) for number in range(24)] for at in range(400)]
        self.assertEqual(parting_row(unlike_answers, 3, 4), [0])
        self.assertEqual(least_table(unlike_answers), unlike_answers[:1])


if __name__ == "__main__":
    unittest.main()
