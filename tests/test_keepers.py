"""Point 117: kept parts of the states of tables."""

import copy
import unittest

from leastshelf.classes import class_numbers
from leastshelf.errors import BadMenu, BadTable
from leastshelf.keepers import kept_fault, kept_map
from leastshelf.menus import Menu
from leastshelf.rightness import mapping
from leastshelf.tables import reached
from samples import KINDS, Raising, plain, seeded
from test_menus import FULL, SMALL
from test_rightness import changed, other_make
from test_tables import bad_tables

CRASH = ("crash", 0)


def menus():
    """Yields menus with the step ("crash", 0), full ones and others."""
    for kind in KINDS:
        yield Menu(kind, FULL, most=1)
        word = plain(kind, (1,))
        yield Menu(kind, [("write", ((0, 1, True, word),)), ("read", 0), ("sync",), CRASH, ("crash", 1)], most=1)
        yield Menu(kind, [CRASH, ("read", 0), ("write", ((0, 1, True, word),)), ("sync",)], most=1)
    yield Menu("set", SMALL, most=1)
    yield Menu("set", [CRASH], most=1)


def slow_fault(menu, table, kept):
    """Returns the first two states that are against the form, as point 117 says it."""
    number = menu.steps().index(CRASH)
    states = sorted(state for state, _ in reached(table))
    pairs = [(i, j) for i in states for j in states if i < j]
    wrong = [(i, j) for i, j in pairs if kept[i] == kept[j] and table[i][number][1] != table[j][number][1]]
    return wrong[0] if wrong else None


def crash_parts(menu, table):
    """Returns kept parts that are in form: what the crash leads to, as a number."""
    number = menu.steps().index(CRASH)
    return [line[number][1] for line in table]


class FaultTest(Raising, unittest.TestCase):
    def test_point_117(self):
        rng = seeded(117)
        found = {True: 0, False: 0}
        for menu in menus():
            own = menu.table()
            for _ in range(6):
                table = changed(rng, other_make(rng, own, rng.randrange(3))[0])
                parts = crash_parts(menu, table)
                self.assertIsNone(kept_fault(menu, table, [-7 * part for part in parts]))
                kept = [rng.choice((part, part, 5, -3)) for part in parts]
                told = kept_fault(menu, table, rng.choice((kept, tuple(kept))))
                self.assertEqual(told, slow_fault(menu, table, kept))
                found[told is None] += 1
        self.assertGreater(min(found.values()), 15)

    def test_the_least_pair(self):
        menu = Menu("set", [CRASH], most=1)
        ring = [[(("done",), (at + 1) % 4)] for at in range(4)]
        for kept, said in (([7, 8, 9, 6], None), ([7, 8, 7, 8], (0, 2)), ([7, 8, 9, 8], (1, 3)), ([7, 8, 9, 9], (2, 3)),
                           ([7, 7, 7, 7], (0, 1)), ([1, 7, 7, 1], (0, 3))):
            self.assertEqual(kept_fault(menu, ring, kept), said)
        same = [[(("done",), 0)], [(("done",), 0)]]
        self.assertIsNone(kept_fault(menu, same, [5, 5]))

    def test_states_that_are_not_reached(self):
        menu = Menu("set", [("read", 0), CRASH], most=1)
        table = [[(("word", ()), 0), (("done",), 0)], [(("word", ()), 2), (("done",), 1)], [(("word", ()), 0), (("done",), 2)]]
        self.assertIsNone(kept_fault(menu, table, [4, 4, 4]))
        self.assertEqual(kept_fault(menu, [[table[0][0], (("done",), 1)], *table[1:]], [4, 4, 4]), (0, 2))
        self.assertEqual(kept_map(menu, table, [4, 9, 8]), None if menu.full_pair() else [(4, ())])

    def test_errors_in_their_order(self):
        for steps in ([], [("sync",)], [("sync",), ("crash", 1), ("read", 0)]):
            menu = Menu("set", steps, most=1)
            for call in (kept_fault, kept_map):
                self.raised(BadMenu, [len(steps)], call, menu, None, None)
                self.raised(BadMenu, [len(steps)], call, menu, menu.table(), [0] * len(menu))
        menu = Menu("set", [("sync",), CRASH], most=1)
        for table, place in bad_tables(2):
            for call in (kept_fault, kept_map):
                self.raised(BadTable, [place], call, menu, table, None)


class MapTest(unittest.TestCase):
    def test_point_117(self):
        rng = seeded(1170)
        found = {"map": 0, "form": 0, "right": 0, "full": 0}
        for menu in menus():
            own = menu.table()
            for _ in range(8):
                table, made_of = other_make(rng, own, rng.randrange(4))
                if rng.random() < 0.3:
                    table = changed(rng, table)
                parts = crash_parts(menu, table)
                renamed = {part: rng.randrange(-50, 50) * 100 + part for part in range(len(table))}
                kept = [renamed[part] if rng.random() < 0.9 else 3 for part in parts]
                told = kept_map(menu, table, rng.choice((kept, tuple(kept))))
                if kept_fault(menu, table, kept) is not None:
                    found["form"] += 1
                elif mapping(menu, table) is None:
                    found["right"] += 1
                elif menu.full_pair() is not None:
                    found["full"] += 1
                else:
                    found["map"] += 1
                    states = [state for state, _ in reached(table)]
                    said = {kept[state]: menu.states()[made_of[state]][0][0] for state in states}
                    self.assertIsInstance(told, list)
                    self.assertEqual(told, sorted(said.items()))
                    for state in states:
                        self.assertEqual(said[kept[state]], menu.states()[made_of[state]][0][0])
                    stores = {state[0][0] for state in menu.states()}
                    self.assertEqual({store for _, store in told}, stores)
                    self.assertGreaterEqual(len(told), len(stores))
                    continue
                self.assertIsNone(told)
        self.assertGreater(min(found.values()), 8, found)

    def test_a_full_menu(self):
        menu = Menu("set", FULL, most=1)
        self.assertIsNone(menu.full_pair())
        table = menu.table()
        self.assertEqual(class_numbers(table), list(range(len(menu))))
        stores = [state[0][0] for state in menu.states()]
        names = {store: 10 * at for at, store in enumerate(sorted(set(stores), reverse=True))}
        kept = [names[store] for store in stores]
        self.assertEqual(kept_map(menu, table, kept), [(0, ((0, 1, (1,)),)), (10, ())])
        self.assertIsNone(kept_map(menu, table, [0] * len(menu)))
        finer = list(range(len(menu)))
        self.assertIsNone(kept_fault(menu, table, finer))
        self.assertEqual(kept_map(menu, table, finer), list(zip(finer, stores)))

    def test_arguments_and_results(self):
        menu = Menu("set", FULL, most=1)
        table, kept = menu.table(), list(range(len(menu)))
        said = copy.deepcopy((table, kept))
        told = kept_map(menu, table, kept)
        kept_map(menu, table, kept).clear()
        self.assertEqual((kept_map(menu, table, kept), (table, kept)), (told, said))


if __name__ == "__main__":
    unittest.main()
