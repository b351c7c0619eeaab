"""Points 46, 47, 49, 54, 55 and 57: menus and their own tables."""

import copy
import itertools
import unittest

from leastshelf.books import Book
from leastshelf.classes import class_numbers, least_table, without_steps
from leastshelf.deeds import narrowed_step
from leastshelf.errors import BadKind, BadLimit, BadMenu, NoPlace, TooLarge
from leastshelf.futures import answers, parting
from leastshelf.kinds import under
from leastshelf.menus import Menu
from leastshelf.tables import run_table
from samples import KINDS, ODD_VALUES, Raising, random_steps, seeded
from test_deeds import bad_steps
from test_leasts import BAD_LIMITS, tuples_throughout

SMALL = (("write", ((0, 2, False, (1,)),)), ("sync",), ("read", 1), ("crash", 0), ("hold", 3, 0, 1), ("drop", 3))
READS = tuple(("read", key) for key in range(30))
FULL = (("write", ((0, 1, True, (1,)),)), ("write", ((0, 1, True, ()),)), ("sync",), ("crash", 0), ("crash", 1),
        ("read", 0), ("hold", 3, 0, 1), ("drop", 3), ("ask", 3, 0))


def puts(many):
    """Returns so many writes that put each another word."""
    return [("write", ((0, 1, True, (letter,)),)) for letter in range(many)]


def sample_menus():
    """Yields the kind, the steps and the limit of menus with few states."""
    rng = seeded(46)
    for kind in ("set", "first", "last", "ends", "heads", "tails"):
        yield kind, list(SMALL), 1
        yield kind, [], 3
        for _ in range(3):
            steps = []
            for step in random_steps(rng, 9, 2):
                if step not in steps and len(str(step)) < 60:
                    steps.append(step)
            yield kind, steps, rng.choice((1, 2))
    yield "list", [("write", ((0, 1, True, (2, 1, 2)),)), ("read", 0), ("sync",)], 2
    yield "bag", [("write", ((0, 1, True, (2, 1, 2)),)), ("write", ((0, 1, True, (1, 2, 2)),)), ("crash", 1)], 2


def rows_to(kind, steps, most, longest):
    """Returns for each least store the first row with at most so many steps that leads to it."""
    rows = {}
    for many in range(longest + 1):
        for row in itertools.product(range(len(steps)), repeat=many):
            book = Book(kind, most=most)
            for number in row:
                book.answer(steps[number])
            rows.setdefault(book.least_store(), row)
    return rows


class MenuTest(Raising, unittest.TestCase):
    def test_points_46_and_47_states_and_rows(self):
        for kind in KINDS:
            for steps in (SMALL[:3], SMALL[1:5], (SMALL[0], SMALL[3], ("write", ((1, 2, True, (4,)),)))):
                rows = rows_to(kind, steps, 1, 3)
                try:
                    menu = Menu(kind, steps, most=1)
                except TooLarge:
                    continue
                near = [(tuple(menu.row_to(number)), menu.states()[number]) for number in range(len(menu))]
                near = [(row, state) for row, state in near if len(row) <= 3]
                self.assertEqual(near, [(row, state) for state, row in rows.items()])
                self.assertEqual(near, sorted(near, key=lambda pair: (len(pair[0]), pair[0])))

    def test_point_47_rows_lead_to_the_states(self):
        for kind, steps, most in sample_menus():
            menu = Menu(kind, steps, most=most)
            self.assertEqual((menu.kind, menu.most, len(menu)), (kind, most, len(menu.states())))
            self.assertEqual(menu.steps(), steps)
            self.assertEqual(len(set(menu.states())), len(menu))
            self.assertTrue(all(tuples_throughout(state) for state in menu.states() + menu.steps()))
            rows = [menu.row_to(number) for number in range(len(menu))]
            self.assertEqual(rows, sorted(rows, key=lambda row: (len(row), row)))
            for number, row in enumerate(rows):
                self.assertIsInstance(row, list)
                book = Book(kind, most=most)
                for step in row:
                    book.answer(steps[step])
                self.assertEqual(book.least_store(), menu.states()[number])

    def test_point_49_own_table(self):
        for kind, steps, most in sample_menus():
            menu = Menu(kind, steps, most=most)
            table = menu.table()
            self.assertIsInstance(table, list)
            self.assertEqual(len(table), len(menu))
            for state, line in zip(menu.states(), table):
                self.assertIsInstance(line, list)
                said = []
                for step in steps:
                    book = Book.made(kind, state, most=most)
                    said.append((book.answer(step), menu.states().index(book.least_store())))
                self.assertEqual(line, said)
                self.assertTrue(tuples_throughout(tuple(line)))

    def test_point_49_answers_of_a_new_book(self):
        rng = seeded(49)
        for kind, steps, most in sample_menus():
            table = Menu(kind, steps, most=most).table()
            for _ in range(10):
                row = [rng.randrange(len(steps)) for _ in range(rng.randrange(12))] if steps else []
                told = answers(Book(kind, most=most), [steps[number] for number in row])
                self.assertEqual(run_table(table, row), told)

    def test_point_46_no_steps(self):
        for kind in KINDS:
            menu = Menu(kind, (), most=8)
            self.assertEqual((len(menu), menu.steps(), menu.states(), menu.row_to(0)), (1, [], [(((),), ())], []))
            self.assertEqual((menu.table(), menu.full_pair()), ([[]], None))

    def test_point_46_as_many_steps_as_may_be(self):
        self.assertEqual(len(Menu("list", READS[:24], most=1).steps()), 24)
        self.assertEqual(Menu("list", READS[:24], most=1).table()[0], [(("word", ()), 0)] * 24)
        for steps in (READS[:25], list(READS), (None,) * 25, [("sync",)] * 25):
            self.raised(TooLarge, ["steps"], Menu, "list", steps, most=1)

    def test_point_47_as_many_states_as_may_be(self):
        for many, states in ((18, 1 + 18 + 18 * 18), (19, 1 + 19 + 19 * 19)):
            menu = Menu("list", puts(many), most=2)
            self.assertEqual(len(menu), states)
        self.raised(TooLarge, ["states"], Menu, "list", puts(20), most=2)
        self.raised(TooLarge, ["states"], Menu, "list", [("write", [(0, 1, False, (1,))]), ("sync",)], most=1)
        full = Menu("list", [*puts(19), ("hold", 0, 0, 1)], most=1)
        self.assertEqual(len(full), (1 + 19) * 2 + 19)
        self.assertEqual(len(Menu("list", [*puts(8), ("hold", 0, 0, 1)], most=2)), 1 + 8 + 64 + 1 + 8 * 2 + 64 * 3 - 8)

    def test_point_47_just_400_states(self):
        steps = [("hold", name, 0, 1) for name in range(4)] + [("drop", name) for name in range(4)]
        steps += [("write", ((5, 6, True, (letter,)),)) for letter in range(4)]
        self.assertEqual(len(Menu("list", [*steps, ("crash", 0)], most=1)), 16 * 5)
        row = [("write", ((0, 1, True, (letter,)),)) for letter in range(19)]
        self.assertEqual(len(Menu("set", [*row, ("sync",)], most=1)), 20 + 19 * 20)
        self.raised(TooLarge, ["states"], Menu, "set", [*row, ("sync",), ("hold", 3, 0, 1)], most=1)

    def test_point_47_just_401_states(self):
        # the first part stays, so behind it each limit has three states: with no view, an empty one, or a word
        for many, most, states in ((19, 6, 2 + 3 * 19 * 6), (18, 7, 2 + 3 * 18 * 7), (19, 7, None)):
            steps = [("write", ((0, 1, False, (letter,)),)) for letter in range(many)] + [("hold", 0, 0, 1)]
            if states is None:
                self.raised(TooLarge, ["states"], Menu, "first", steps, most=most)
            else:
                self.assertEqual(len(Menu("first", steps, most=most)), states)

    def test_bad_steps(self):
        for thing in bad_steps():
            for row in ([thing], [("sync",), ("read", 5), thing, thing], (("sync",), thing, ("sync",))):
                place = [at for at, entry in enumerate(row) if entry is thing][0]
                self.raised(BadMenu, [place], Menu, "list", row, most=2)

    def test_equal_steps(self):
        put = ("write", ((0, 1, True, (2, 1)),))
        for row, place in (([("sync",), ("read", 1), ("sync",)], 2), ([put, ("write", [(0, 1, True, (2, 1))])], 1),
                           ((("crash", 0), ("crash", 0), ("crash", 0)), 1), ([put, put, None], 1), ([None, put, put], 0)):
            self.raised(BadMenu, [place], Menu, "set", row, most=1)
        steps = [put, ("write", ((0, 1, True, (1, 2)),)), ("crash", 1), ("crash", 0)]
        self.assertEqual(Menu("set", steps, most=1).steps(), steps)

    def test_errors_in_their_order(self):
        self.bad_kinds(BadKind, Menu, READS, most=0)
        for thing in BAD_LIMITS:
            self.raised(BadLimit, [thing], Menu, "list", READS, most=thing)
            self.raised(BadLimit, [thing], Menu, "list", [None], most=thing)
        self.raised(BadMenu, [20], Menu, "list", [*puts(20), None], most=2)
        self.assertRaises(TypeError, Menu, "list", [])

    def test_row_to_no_place(self):
        menu = Menu("set", SMALL, most=1)
        for thing in ODD_VALUES + (len(menu), -1, "0", (0,), [0]):
            self.raised(NoPlace, [thing], menu.row_to, thing)
        self.assertEqual(menu.row_to(0), [])
        self.assertNotEqual(menu.row_to(len(menu) - 1), [])

    def test_example(self):
        menu = Menu("set", [("write", [(0, 2, True, (1,))]), ("sync",), ("read", 1)], most=1)
        told = [len(menu), menu.states()[1], menu.row_to(3), menu.table()[1], menu.full_pair()]
        self.assertEqual(told, [4, (((), ((0, 2, (1,)),)), ()), [0, 1, 0],
                                [(("refused", "loose"), 1), (("done",), 2), (("word", (1,)), 1)], (0, 1)])

    def test_point_1_arguments_and_results(self):
        batch = [(0, 2, True, (1,))]
        steps = [("write", batch), ("sync",), ("read", 1)]
        menu = Menu("set", steps, most=1)
        said = copy.deepcopy((menu.steps(), menu.states(), menu.table(), menu.row_to(3)))
        self.assertEqual(steps, [("write", [(0, 2, True, (1,))]), ("sync",), ("read", 1)])
        batch.clear()
        steps.clear()
        menu.steps().clear()
        menu.states().clear()
        menu.row_to(3).append(5)
        table = menu.table()
        table[0].clear()
        table.pop()
        self.assertEqual((menu.steps(), menu.states(), menu.table(), menu.row_to(3)), said)
        self.assertEqual((len(menu), menu.full_pair()), (4, (0, 1)))


class FullTest(unittest.TestCase):
    def test_point_54_full_pair(self):
        full = 0
        for kind, steps, most in [*sample_menus(), ("set", FULL, 1), ("list", FULL, 1), ("last", FULL[:-1], 1)]:
            menu = Menu(kind, steps, most=most)
            books = [Book.made(kind, state, most=most) for state in menu.states()]
            bad = [(i, j) for (i, one), (j, other) in itertools.combinations(enumerate(books), 2)
                   if not all(step in menu.steps() for step in parting(one, other))]
            self.assertEqual(menu.full_pair(), bad[0] if bad else None)
            if not bad:
                full += 1
                self.assertEqual(class_numbers(menu.table()), list(range(len(menu))))
                self.assertEqual(least_table(menu.table()), menu.table())
        self.assertGreater(full, 2)

    def test_point_54_full_menus(self):
        self.assertIsNone(Menu("set", FULL, most=1).full_pair())
        self.assertIsNone(Menu("tails", FULL[:6], most=1).full_pair())
        self.assertEqual(Menu("set", FULL[:-1], most=1).full_pair()[0], 0)
        steps = [("write", ((0, 1, True, (1,)),)), ("sync",), ("read", 0)]
        self.assertEqual(Menu("set", steps, most=1).full_pair(), (1, 2))
        self.assertEqual(Menu("set", [*steps, ("crash", 0)], most=1).full_pair(), (1, 2))
        self.assertEqual(Menu("set", [*steps, ("crash", 1)], most=1).full_pair(), (1, 3))
        self.assertIsNone(Menu("set", [*steps, ("crash", 1), ("crash", 0)], most=1).full_pair())
        self.assertEqual(Menu("set", [*steps[:2], ("crash", 1), ("crash", 0)], most=1).full_pair(), (0, 1))


class LessTest(unittest.TestCase):
    def test_point_55_leaving_out_steps(self):
        rng = seeded(55)
        for kind, steps, most in sample_menus():
            menu = Menu(kind, steps, most=most)
            out = [number for number in range(len(steps)) if rng.random() < 0.4]
            left = Menu(kind, [step for number, step in enumerate(steps) if number not in out], most=most)
            table = without_steps(menu.table(), out)
            self.assertEqual(least_table(table), least_table(left.table()))
            many = [len(least_table(one.table())) for one in (left, menu)]
            self.assertLessEqual(many[0], many[1])

    def test_point_57_narrowed_menus(self):
        for kind, steps, most in sample_menus():
            for fine in KINDS:
                narrowed = [narrowed_step(fine, step) for step in steps]
                if under(fine, kind) and len(set(narrowed)) == len(steps):
                    one, other = Menu(fine, narrowed, most=most), Menu(kind, steps, most=most)
                    self.assertLessEqual(len(one), len(other))
                    self.assertLessEqual(len(least_table(one.table())), len(least_table(other.table())))


if __name__ == "__main__":
    unittest.main()
