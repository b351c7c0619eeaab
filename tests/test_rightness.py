"""Points 48, 50 and 53, and 54 to 57 for right tables: which tables are right for a menu, and their maps."""

import copy
import unittest

from leastshelf.books import Book
from leastshelf.classes import class_numbers, doubled, least_table, parting_row, without_steps
from leastshelf.deeds import narrowed_step
from leastshelf.errors import BadTable
from leastshelf.futures import answers
from leastshelf.kinds import under
from leastshelf.menus import Menu
from leastshelf.rightness import erring, mapping
from leastshelf.tables import reached, run_table
from samples import KINDS, Raising, seeded
from test_menus import FULL, SMALL, sample_menus
from test_tables import bad_tables, rows_of, slow_run

ODD_ANSWER = ("odd",)


def slow_erring(own, table, steps):
    """Returns the first row along which two tables answer unequally, looking at rows in the order of point 46."""
    rows = {(0, 0): []}
    pairs = [(0, 0)]
    for pair in pairs:
        for number in range(steps):
            (answer, one), (other_answer, other) = own[pair[0]][number], table[pair[1]][number]
            if answer != other_answer:
                return rows[pair] + [number]
            if (one, other) not in rows:
                rows[(one, other)] = rows[pair] + [number]
                pairs.append((one, other))
    return None


def other_make(rng, table, more):
    """Returns a table with the same answers, of other states, and for each state the one that it was made of."""
    made_of = [0] + [rng.randrange(len(table)) for _ in range(more)] + list(range(1, len(table)))
    made_of[1:] = rng.sample(made_of[1:], len(made_of) - 1)
    if 0 not in made_of[1:]:
        made_of.append(0)
    lines = []
    for state in made_of:
        nexts = [rng.choice([at for at, one in enumerate(made_of) if one == target]) for _, target in table[state]]
        lines.append([(answer, at) for (answer, _), at in zip(table[state], nexts)])
    return lines, made_of


def changed(rng, table):
    """Returns a table with one answer or one next changed."""
    out = [list(line) for line in table]
    if out[0]:
        state, number = rng.randrange(len(out)), rng.randrange(len(out[0]))
        answer, target = out[state][number]
        out[state][number] = rng.choice(((ODD_ANSWER, target), (answer, rng.randrange(len(out))), (answer, 0)))
    return out


def small_menus():
    """Yields menus with few states, and others."""
    for kind, steps, most in sample_menus():
        menu = Menu(kind, steps, most=most)
        if len(menu) < 60:
            yield menu


class RightnessTest(Raising, unittest.TestCase):
    def test_point_50_erring_rows(self):
        rng = seeded(50)
        found = {True: 0, False: 0}
        for menu in small_menus():
            own, steps = menu.table(), len(menu.steps())
            for _ in range(6):
                table = changed(rng, other_make(rng, own, rng.randrange(4))[0])
                told = erring(menu, table)
                self.assertEqual(told, slow_erring(own, table, steps))
                found[told is None] += 1
                if told is None:
                    continue
                self.assertIsInstance(told, list)
                due = answers(Book(menu.kind, most=menu.most), [menu.steps()[number] for number in told])
                got = run_table(table, told)
                self.assertEqual((due[:-1], due[-1] == got[-1]), (got[:-1], False))
        self.assertGreater(min(found.values()), 20)

    def test_point_50_no_earlier_row_errs(self):
        rng = seeded(500)
        steps = list(SMALL[:3])
        for kind in KINDS:
            menu = Menu("set" if kind in ("list", "bag") else kind, steps, most=1)
            own = menu.table()
            for _ in range(10):
                table = changed(rng, other_make(rng, own, 2)[0])
                unequal = [row for row in rows_of(3, 4) if slow_run(own, row)[0] != slow_run(table, row)[0]]
                told = erring(menu, table)
                if unequal or (told is not None and len(told) <= 4):
                    self.assertEqual(told, unequal[0])

    def test_point_50_first_rows(self):
        menu = Menu("set", [("write", ((0, 1, True, (1,)),)), ("sync",), ("read", 0)], most=1)
        own = menu.table()
        for state, row in reached(own):
            for number in range(3):
                table = [list(line) for line in own]
                table[state][number] = (ODD_ANSWER, table[state][number][1])
                self.assertEqual(erring(menu, table), row + [number])
                for later in range(number + 1, 3):
                    table[state][later] = (ODD_ANSWER, 0)
                    self.assertEqual(erring(menu, table), row + [number])
        every = [[(ODD_ANSWER, 0)] * 3]
        self.assertEqual((erring(menu, every), mapping(menu, every)), ([0], None))
        late = [[(answer, 0) for answer, _ in own[0]]]
        self.assertEqual((erring(menu, late), mapping(menu, late)), ([0, 0], None))

    def test_point_53_maps(self):
        rng = seeded(53)
        for menu in small_menus():
            own = menu.table()
            classes = class_numbers(own)
            for more in (0, 1, 5):
                table, made_of = other_make(rng, own, more)
                told = mapping(menu, table)
                self.assertIsInstance(told, list)
                self.assertIsNone(erring(menu, table))
                met = [state for state, _ in reached(table)]
                said = [classes[one] if state in met else None for state, one in enumerate(made_of)]
                self.assertEqual(told, said)
                self.assertEqual(sorted({number for number in told if number is not None}), list(range(max(classes) + 1)))
                least = least_table(own)
                for state in met:
                    line = [(answer, told[target]) for answer, target in table[state]]
                    self.assertEqual(line, least[told[state]])
            self.assertEqual(mapping(menu, own), classes)
            self.assertEqual(mapping(menu, least_table(own)), list(range(max(classes) + 1)))

    def test_point_53_right_exactly_if_least_tables_are_equal(self):
        rng = seeded(530)
        for menu in small_menus():
            least = least_table(menu.table())
            for _ in range(6):
                table = changed(rng, other_make(rng, menu.table(), rng.randrange(3))[0])
                right = least_table(table) == least
                self.assertEqual((erring(menu, table) is None, mapping(menu, table) is None), (right, not right))
                if right:
                    self.assertGreaterEqual(len(list(reached(table))), len(least))

    def test_point_53_as_many_states_as_classes(self):
        rng = seeded(531)
        for menu in small_menus():
            least = least_table(menu.table())
            places = [0] + rng.sample(range(1, len(least)), len(least) - 1)
            table = [None] * len(least)
            for state, line in enumerate(least):
                table[places[state]] = [(answer, places[target]) for answer, target in line]
            self.assertEqual(mapping(menu, table), [places.index(state) for state in range(len(least))])
            order = [state for state, _ in reached(table)]
            lines = [[(answer, order.index(target)) for answer, target in table[state]] for state in order]
            self.assertEqual(lines, least)

    def test_states_that_are_not_reached(self):
        menu = Menu("first", SMALL, most=1)
        own = menu.table()
        odd = [(ODD_ANSWER, len(own))] * len(SMALL)
        for table in ([*own, odd], [*own, odd, own[1]], [*own, own[0]]):
            self.assertIsNone(erring(menu, table))
            self.assertEqual(mapping(menu, table), class_numbers(own) + [None] * (len(table) - len(own)))
        wrong = [list(line) for line in [*own, odd]]
        wrong[0][0] = (wrong[0][0][0], len(own))
        self.assertEqual((erring(menu, wrong), mapping(menu, wrong)), ([0, 0], None))

    def test_no_steps(self):
        for kind in KINDS:
            menu = Menu(kind, [], most=2)
            self.assertEqual((erring(menu, [[]]), mapping(menu, ((),)), mapping(menu, [[], []])), (None, [0], [0, None]))
            self.raised(BadTable, [0], erring, menu, [[(ODD_ANSWER, 0)]])

    def test_tables_of_tuples(self):
        menu = Menu("tails", SMALL, most=1)
        table = tuple(tuple(line) for line in menu.table())
        self.assertEqual((erring(menu, table), mapping(menu, table)), (None, class_numbers(table)))

    def test_point_48_answers_are_compared_as_values(self):
        menu = Menu("set", [("read", 0), ("sync",)], most=1)
        self.assertIsNone(erring(menu, [[(("word", tuple([])), 0), (tuple(["done"]), 0)]]))
        self.assertEqual(erring(menu, [[(("word", []), 0), (("done",), 0)]]), [0])
        self.assertEqual(erring(menu, [[(("word", ()), 0), ((), 0)]]), [1])

    def test_bad_tables(self):
        for steps in (1, 2):
            menu = Menu("set", [("read", 0), ("sync",)][:steps], most=1)
            for table, place in bad_tables(steps):
                self.raised(BadTable, [place], erring, menu, table)
                self.raised(BadTable, [place], mapping, menu, table)
        self.raised(BadTable, [0], mapping, Menu("set", [], most=1), [])

    def test_point_1_arguments_and_results(self):
        menu = Menu("set", SMALL, most=1)
        table = menu.table()
        said = copy.deepcopy(table)
        told = mapping(menu, table)
        told.clear()
        wrong = [[(ODD_ANSWER, 0)] * len(SMALL)]
        erring(menu, wrong).clear()
        self.assertEqual((table, menu.table(), mapping(menu, table)), (said, said, class_numbers(said)))
        self.assertEqual((erring(menu, wrong), wrong), ([0], [[(ODD_ANSWER, 0)] * len(SMALL)]))


class RightTablesTest(unittest.TestCase):
    def test_point_54_maps_of_full_menus_lead_to_the_states(self):
        rng = seeded(54)
        for kind in ("set", "list", "last", "tails"):
            menu = Menu(kind, FULL, most=1)
            self.assertIsNone(menu.full_pair())
            table, _ = other_make(rng, menu.table(), 6)
            told = mapping(menu, table)
            for state, row in reached(table):
                book = Book(kind, most=1)
                for number in row:
                    book.answer(menu.steps()[number])
                self.assertEqual(book.least_store(), menu.states()[told[state]])

    def test_point_55_leaving_out_steps(self):
        rng = seeded(55)
        for menu in small_menus():
            out = [number for number in range(len(menu.steps())) if rng.random() < 0.4]
            steps = [step for number, step in enumerate(menu.steps()) if number not in out]
            left = Menu(menu.kind, steps, most=menu.most)
            table = without_steps(other_make(rng, menu.table(), 3)[0], out)
            self.assertIsNone(erring(left, table))
            self.assertLessEqual(len(least_table(left.table())), len(least_table(menu.table())))

    def test_point_56_doubling(self):
        rng = seeded(56)
        for menu in small_menus():
            own = menu.table()
            for state in rng.sample(range(len(own)), min(3, len(own))):
                table = doubled(own, state)
                self.assertIsNone(erring(menu, table))
                double = len(own)
                table = [[(answer, double if target == state and rng.random() < 0.5 else target) for answer, target in line]
                         for line in table]
                self.assertIsNone(erring(menu, table))
                self.assertIn(mapping(menu, table)[double], (None, class_numbers(own)[state]))

    def test_point_56_changed_nexts(self):
        rng = seeded(560)
        found = {True: 0, False: 0}
        for menu in small_menus():
            for _ in range(8 if menu.steps() else 0):
                table = other_make(rng, menu.table(), 2)[0]
                state = rng.choice([state for state, _ in reached(table)])
                number, target = rng.randrange(len(menu.steps())), rng.randrange(len(table))
                other = [list(line) for line in table]
                other[state][number] = (table[state][number][0], target)
                same = parting_row(table, table[state][number][1], target) is None
                self.assertIs(erring(menu, other) is None, same)
                found[same] += 1
        self.assertGreater(min(found.values()), 20)

    def test_point_56_changed_answers(self):
        rng = seeded(561)
        for menu in small_menus():
            table = other_make(rng, menu.table(), 2)[0]
            for state, row in list(reached(table))[:12] if menu.steps() else []:
                number = rng.randrange(len(menu.steps()))
                other = [list(line) for line in table]
                other[state][number] = (ODD_ANSWER, table[state][number][1])
                self.assertEqual((erring(menu, other), mapping(menu, other)), (row + [number], None))

    def test_point_57_narrowed_menus(self):
        for menu in small_menus():
            for kind in KINDS:
                narrowed = [narrowed_step(kind, step) for step in menu.steps()]
                if under(kind, menu.kind) and len(set(narrowed)) == len(narrowed):
                    other = Menu(kind, narrowed, most=menu.most)
                    self.assertLessEqual(len(other), len(menu))
                    self.assertLessEqual(max(mapping(other, other.table())), max(mapping(menu, menu.table())))


if __name__ == "__main__":
    unittest.main()
