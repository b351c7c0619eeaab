"""Points 58 to 60: how many plain words, least stores and states of menus there are."""

import itertools
import math
import unittest

from leastshelf.counts import menu_count, store_count, word_count
from leastshelf.errors import BadKind
from leastshelf.fields import Field
from leastshelf.leasts import plain_least
from leastshelf.menus import Menu
from samples import KINDS, Raising, plain_words

UNBOUNDED = ("list", "bag")


def slow_stores(words, keys, loose, widths):
    """Returns all least stores with these words at so many keys; the views start at key 0."""
    sizes = [keys] * (loose + 1) + list(widths)
    found = set()
    for row in itertools.product(words, repeat=sum(sizes)):
        stores, at = [], 0
        for size in sizes:
            pieces = [(key, key + 1, row[at + key]) for key in range(size)]
            stores.append(tuple(Field((), pieces).pieces()))
            at += size
        views = [(name, 0, width, store) for name, (width, store) in enumerate(zip(widths, stores[loose + 1:])) if width]
        found.add((tuple(stores[:loose + 1]), tuple(views)))
    return found


def counting_menu(kind, words, keys, most, widths):
    """Returns the menu of point 60."""
    steps = []
    for row in itertools.product(words, repeat=keys):
        steps.append(("write", tuple((key, key + 1, True, word) for key, word in enumerate(row))))
    steps += [("sync",)] + [("crash", number) for number in range(most + 1)]
    for name, width in enumerate(widths):
        steps += [("hold", name, 0, width), ("drop", name)]
    return Menu(kind, steps, most=most)


class WordsTest(Raising, unittest.TestCase):
    def test_point_58(self):
        for kind in KINDS:
            for letters in range(5):
                if kind in UNBOUNDED:
                    for longest in range(4):
                        said = len(plain_words(kind, range(letters), longest))
                        self.assertEqual(word_count(kind, letters, longest=longest), said)
                else:
                    self.assertEqual(word_count(kind, letters), len(plain_words(kind, range(letters), max(letters, 2))))

    def test_longest_says_nothing_under_other_kinds(self):
        for kind in KINDS:
            if kind not in UNBOUNDED:
                self.assertEqual(word_count(kind, 3, longest=7), word_count(kind, 3))

    def test_no_letters(self):
        for kind in KINDS:
            self.assertEqual((word_count(kind, 0), word_count(kind, 0, longest=5)), (1, 1))
        for kind in UNBOUNDED:
            self.assertEqual((word_count(kind, 7), word_count(kind, 1, longest=4)), (1, 5))

    def test_60_letters(self):
        self.assertEqual(word_count("set", 60), 2 ** 60)
        self.assertEqual([word_count(kind, 60) for kind in ("first", "last", "ends")], [61, 61, 3601])
        said = sum(math.factorial(60) // math.factorial(60 - many) for many in range(61))
        self.assertEqual([word_count(kind, 60) for kind in ("heads", "tails")], [said, said])
        self.assertEqual(word_count("list", 60, longest=60), (60 ** 61 - 1) // 59)
        self.assertEqual(word_count("bag", 60, longest=60), math.comb(120, 60))
        self.assertEqual(word_count("bag", 60, longest=2), 1 + 60 + 60 * 61 // 2)
        self.assertEqual(word_count("list", 60, longest=400), (60 ** 401 - 1) // 59)

    def test_kind_comes_first(self):
        self.bad_kinds(BadKind, word_count, 3)
        self.bad_kinds(BadKind, word_count, 3, longest=2)
        self.assertRaises(TypeError, word_count, "list", 3, 2)


class StoresTest(unittest.TestCase):
    def test_point_59(self):
        for words, keys, loose, widths in (([()], 3, 2, (1,)), ([(), (1,)], 2, 0, ()), ([(), (1,)], 2, 1, ()),
                                           ([(), (1,)], 2, 1, (2, 1)), ([(), (1,), (2,)], 2, 0, (1,)), ([(), (1,)], 1, 3, (1,)),
                                           ([(), (1,), (2,)], 1, 2, (1, 1)), ([(), (1,)], 3, 0, (2, 1, 3)), ([(), (1,)], 0, 2, ())):
            found = slow_stores(words, keys, loose, widths)
            self.assertEqual(store_count(len(words), keys, loose=loose, widths=widths), len(found))
            self.assertTrue(all(plain_least("list", least) == least for least in found))

    def test_edges(self):
        self.assertEqual(store_count(5, 3), 125)
        self.assertEqual((store_count(5, 0), store_count(5, 0, loose=4), store_count(1, 9, loose=8, widths=(3,))), (1, 1, 1))
        self.assertEqual(store_count(3, 2, loose=1, widths=[2, 0, 1]), 3 ** 7)
        self.assertEqual(store_count(7, 100, loose=3), 7 ** 400)
        self.assertEqual(store_count(60, 40, loose=8, widths=(1,) * 40), 60 ** 400)
        self.assertRaises(TypeError, store_count, 3, 2, 1)


class MenusTest(unittest.TestCase):
    def test_point_60(self):
        for words, keys, most, widths in (([(), (1,)], 1, 1, (1,)), ([(), (1,)], 2, 1, (1, 2)), ([(), (1,), (2,)], 1, 2, ()),
                                          ([(), (1,), (2,)], 1, 1, (1, 1)), ([(), (1,)], 1, 3, (1,)), ([()], 2, 4, (1, 2)),
                                          ([(), (3,)], 3, 1, ())):
            for kind in ("set", "last", "heads"):
                menu = counting_menu(kind, words, keys, most, widths)
                self.assertEqual(menu_count(len(words), keys, most=most, widths=widths), len(menu))

    def test_point_60_ends(self):
        menu = counting_menu("ends", [(), (1, 1), (1, 2)], 1, 1, (1,))
        self.assertEqual(menu_count(3, 1, most=1, widths=[1]), len(menu))

    def test_point_60_sums(self):
        for words, keys, most in ((3, 2, 4), (2, 0, 3), (1, 5, 8), (4, 10, 8)):
            said = sum(store_count(words, keys, loose=loose) for loose in range(most + 1))
            self.assertEqual(menu_count(words, keys, most=most), said)
            self.assertEqual(menu_count(words, keys, most=most, widths=(2, 3)), said * (1 + words ** 2) * (1 + words ** 3))
            self.assertEqual(menu_count(words, keys, most=most, widths=(0,)), said * 2)
        self.assertEqual(menu_count(2, 44, most=8), sum(2 ** (44 * many) for many in range(1, 10)))
        self.assertEqual(menu_count(3, 1, most=1, widths=(400,)), 12 * (1 + 3 ** 400))
        self.assertRaises(TypeError, menu_count, 2, 1)


if __name__ == "__main__":
    unittest.main()
