"""Points 61 to 63 and 73: runs."""

import copy
import unittest

from leastshelf.batches import batch_effects, on_store
from leastshelf.errors import BadBatch, BadField, BadKey, BadKind, BadRun, BadStretch
from leastshelf.fields import Field
from leastshelf.overlays import key_set
from leastshelf.runs import Run
from samples import (KINDS, ODD_VALUES, TOP, Raising, makes, normal_form, plain, plain_words, random_batch, random_pieces,
                     sample_keys, seeded)
from stacks import CELL_KEYS, NO_KEYS, one_run, random_row, random_run, random_stretch, then_all

BAD_WINDOWS = [(begin, 5) for begin in ODD_VALUES if begin != 0] + [(0, end) for end in ODD_VALUES if end != 10 ** 30]
BAD_WINDOWS += [(0, 0), (1, 1), (3, 2), (-2, -1), (True, 5), (False, 5), (0, True), (5, 0)]
BAD_KEYS = ODD_VALUES + (TOP, "3", (3,), [3])
WIDE = key_set([(0, TOP)])


def slow_row(kind, begin, batches, key):
    """Returns the entry row of batches at a key, as point 62 says it."""
    row = []
    for number, batch in enumerate(batches, begin + 1):
        at_key = [(clear, plain(kind, word)) for a, b, clear, word in batch if a <= key < b]
        effect = then_all(kind, [normal_form(kind, one) for one in at_key])
        if effect != (False, ()):
            row.append((number, *effect))
    return tuple(row)


def bad_things(kind):
    """Returns values that are no entry rows of a run of this kind with the window (2, 6)."""
    put = (4, True, plain(kind, (1,)))
    out = [thing for thing in ODD_VALUES if thing != ()] + [[], [put], put, (put, put), (put, (3, True, ())), ((4, True, ()), put)]
    out += [((2, True, ()),), ((7, True, ()),), ((0, True, ()),), ((4, False, ()),), ((4, True),), (put, None), ([4, True, ()],)]
    out += [((4, True, plain(kind, (1,)), ()),), ((4, 1, plain(kind, (1,))),), ((4, True, list(plain(kind, (1,)))),)]
    out += [((4, True, (1, 2, 1, 2)),)] if kind != "list" else [((4, True, (1, -2)),)]
    return out + ([((4, False, (1,)),)] if kind == "last" else [])


class RunTest(Raising, unittest.TestCase):
    def test_point_61_parts(self):
        rng = seeded(61)
        for kind in KINDS:
            for begin, end in ((0, 1), (0, 4), (5, 6), (3, 9)):
                rows = [random_row(rng, kind, begin, end) for _ in range(3)] + [()]
                pieces = random_pieces(rng, rows)
                reach = key_set([(a, b) for a, b, row in pieces if row != ()] + [random_stretch(rng)])
                run = Run(kind, begin, end, reach, pieces)
                self.assertEqual((run.kind, run.begin, run.end, run.reach()), (kind, begin, end, reach))
                self.assertEqual(run.contents(), Field((), pieces))
                self.assertEqual(run.pieces(), Field((), pieces).pieces())
                self.assertEqual(len(run), len(Field((), pieces)))
                for key in sample_keys(pieces, reach):
                    self.assertEqual(run.entries_at(key), Field((), pieces).at(key))
                    self.assertIs(key in run, reach.at(key))

    def test_edges(self):
        for kind in KINDS:
            word = plain(kind, (1,))
            empty = Run(kind, 0, 1, NO_KEYS, [])
            self.assertEqual((len(empty), empty.pieces(), empty.reach(), 0 in empty), (0, [], NO_KEYS, False))
            self.assertEqual((empty.entries_at(TOP - 1), empty.up_to(0, 9)), ((), (False, ())))
            kept = Run(kind, 0, 1, key_set([(4, 6)]), ())
            self.assertEqual((len(kept), 5 in kept, 6 in kept, kept.entries_at(5)), (0, True, False, ()))
            row = ((3, True, word), (7, True, ()))
            both = Run(kind, 2, 7, WIDE, [(0, 1, row), (1, TOP, row)])
            self.assertEqual((both.pieces(), len(both)), ([(0, TOP, row)], 1))
            self.assertEqual([both.up_to(8, at) for at in (2, 3, 6, 7)], [(False, ()), (True, word), (True, word), (True, ())])

    def test_windows(self):
        for begin, end in BAD_WINDOWS:
            self.raised(BadRun, ["window"], Run, "list", begin, end, None, [None])
        self.assertEqual(Run("list", 0, 10 ** 30, NO_KEYS, []).end, 10 ** 30)

    def test_reaches(self):
        for thing in ODD_VALUES + (Field(()), Field(0), Field(1), Field(True), Field((False, ())), [(0, 1, True)],
                                   Field(0, [(0, 1, 1)]), Field((), [(0, 1, (1,))]), Field(True, [(0, 1, False)])):
            self.raised(BadRun, ["reach"], Run, "list", 0, 5, thing, [None])
        self.assertEqual(Run("list", 0, 5, Field(False, [(0, 1, True), (1, 2, True)]), []).reach(), key_set([(0, 2)]))

    def test_pieces_of_no_field(self):
        put = ((3, True, (1,)),)
        for pieces, place in (([None], 0), ([(0, 1, put), (0, 2, put)], 1), ([(0, 1, None), (3, 3, put)], 1),
                              ([(0, 1, None), (1, 2, ()), (5, 4, None)], 2), ([(0, 2, None), [3, 4, ()]], 1),
                              (((0, 2, put), (4, TOP + 1, put)), 1), ([(0, 2, put), (1, 4, put), None], 1),
                              ([(0, 2, ()), (1, 3, ())], 1)):
            self.raised(BadField, [place], Run, "list", 2, 6, WIDE, pieces)

    def test_things_that_are_no_entry_rows(self):
        for kind in KINDS:
            good = ((3, True, plain(kind, (1,))), (6, True, ()))
            self.assertEqual(len(Run(kind, 2, 6, WIDE, [(0, 1, good)])), 1)
            for thing in bad_things(kind):
                self.raised(BadRun, [0], Run, kind, 2, 6, WIDE, [(4, 5, thing)])
                self.raised(BadRun, [2], Run, kind, 2, 6, WIDE, [(0, 1, good), (1, 2, ()), (4, 5, thing), (6, 7, thing)])
                self.raised(BadRun, [1], Run, kind, 2, 6, key_set([(0, 2)]), [(0, 1, good), (4, 5, thing)])

    def test_keys_outside_of_the_reach(self):
        put = ((3, True, (1,)),)
        reach = key_set([(2, 5), (7, 8)])
        for pieces, place in (([(1, 3, put)], 0), ([(4, 6, put)], 0), ([(2, 5, put), (5, 6, put)], 1), ([(4, 8, put)], 0),
                              ([(0, 1, ()), (2, 3, put), (6, 7, put)], 2), ([(2, 3, put), (4, 6, put), (9, 10, None)], 1),
                              ([(9, 10, put)], 0), ([(2, 3, put), (9, 10, None), (8, 9, ())][:2], 1)):
            self.raised(BadRun, [place], Run, "list", 2, 6, reach, pieces)
        run = Run("list", 2, 6, reach, [(0, 2, ()), (2, 5, put), (5, 7, ()), (7, 8, put), (8, TOP, ())])
        self.assertEqual(run.pieces(), [(2, 5, put), (7, 8, put)])
        self.raised(BadRun, [0], Run, "list", 2, 6, NO_KEYS, [(0, 1, put)])

    def test_errors_in_their_order(self):
        self.bad_kinds(BadKind, Run, -1, None, None, [None])
        self.raised(BadRun, ["window"], Run, "list", 2, 2, None, [None])
        self.raised(BadRun, ["reach"], Run, "list", 2, 3, None, [None])
        self.raised(BadField, [1], Run, "list", 2, 3, NO_KEYS, [(0, 1, "x"), None])
        self.raised(BadRun, [0], Run, "list", 2, 3, NO_KEYS, [(0, 1, "x"), (1, 2, "x")])

    def test_bad_keys(self):
        run = one_run("list", 0, 3, ((2, True, (1,)),), 5)
        for key in BAD_KEYS:
            self.raised(BadKey, [key], run.entries_at, key)
            self.raised(BadKey, [key], run.up_to, key, 2)
            self.raised(BadKey, [key], lambda thing: thing in run, key)
        self.assertEqual((run.entries_at(5), run.entries_at(TOP - 1)), (((2, True, (1,)),), ()))

    def test_point_63_up_to(self):
        rng = seeded(630)
        for kind in KINDS:
            for _ in range(8):
                run = random_run(rng, kind, 3, 9)
                for key in CELL_KEYS:
                    for number in (-4, 0, 3, 4, 6, 8, 9, 10, 99):
                        row = [(clear, word) for at, clear, word in run.entries_at(key) if at <= number]
                        self.assertEqual(run.up_to(key, number), then_all(kind, row))

    def test_within(self):
        rng = seeded(611)
        for kind in KINDS:
            for _ in range(8):
                run = random_run(rng, kind, 1, 4)
                a, b = rng.choice((random_stretch(rng), (0, TOP), (2, 3), (TOP - 1, TOP)))
                told = run.within(a, b)
                self.assertIsInstance(told, Run)
                self.assertEqual((told.kind, told.begin, told.end), (kind, 1, 4))
                self.assertEqual((told.reach(), told.contents()), (run.reach().within(a, b), run.contents().within(a, b)))
        run = one_run("list", 0, 3, ((2, True, (1,)),), 5)
        for a, b in ((3, 3), (4, 2), (-1, 3), (0, TOP + 1), (None, 3), (0, "x"), (True, 3), (0, 2.0)):
            self.raised(BadStretch, [0], run.within, a, b)

    def test_point_73_applied(self):
        rng = seeded(73)
        for kind in KINDS:
            for _ in range(6):
                run = random_run(rng, kind, 2, 6)
                store = Field((), random_pieces(rng, plain_words(kind, (0, 1, 2), 2)))
                for number in (0, 2, 3, 5, 6, 99):
                    told = run.applied(store, number)
                    self.assertEqual(told.neutral, ())
                    for key in sample_keys(run.pieces(), store.pieces()):
                        self.assertEqual(told.at(key), makes(kind, run.up_to(key, number), store.at(key)))

    def test_equality(self):
        row, other_row = ((3, True, (1,)),), ((4, True, (1,)),)
        run = Run("set", 2, 6, key_set([(2, 5)]), [(2, 4, row)])
        self.assertTrue(run == Run("set", 2, 6, key_set([(2, 3), (3, 5)]), [(2, 3, row), (3, 4, row)]))
        for other in (Run("bag", 2, 6, key_set([(2, 5)]), [(2, 4, row)]), Run("set", 1, 6, key_set([(2, 5)]), [(2, 4, row)]),
                      Run("set", 2, 7, key_set([(2, 5)]), [(2, 4, row)]), Run("set", 2, 6, key_set([(2, 6)]), [(2, 4, row)]),
                      Run("set", 2, 6, key_set([(2, 5)]), [(2, 5, row)]), Run("set", 2, 6, key_set([(2, 5)]), [(2, 4, other_row)]),
                      Run("set", 2, 6, key_set([(2, 5)]), []), run.contents(), run.pieces(), *ODD_VALUES):
            self.assertIs(run == other, False)
            self.assertIs(run != other, True)
        self.assertIs(run == run, True)

    def test_point_1_arguments_and_results(self):
        pieces = [(0, 2, ((1, True, (1,)),))]
        run = Run("list", 0, 3, key_set([(0, 5)]), pieces)
        said = copy.deepcopy(run.pieces())
        pieces.append((3, 4, ((2, True, ()),)))
        run.pieces().clear()
        run.within(0, 1)
        run.contents().pieces().clear()
        run.reach().pieces().clear()
        self.assertEqual((run.pieces(), run.reach(), len(run)), (said, key_set([(0, 5)]), 1))
        self.assertEqual(pieces[:1], said)
        self.assertIsNot(run.pieces(), run.pieces())


class OfBatchesTest(Raising, unittest.TestCase):
    def test_point_62(self):
        rng = seeded(62)
        for kind in KINDS:
            for _ in range(12):
                begin = rng.randrange(4)
                batches = [random_batch(rng) for _ in range(rng.randrange(1, 5))]
                run = Run.of_batches(kind, begin, batches)
                self.assertIsInstance(run, Run)
                self.assertEqual((run.kind, run.begin, run.end), (kind, begin, begin + len(batches)))
                for key in sample_keys(*batches):
                    self.assertEqual(run.entries_at(key), slow_row(kind, begin, batches, key))
                    self.assertIs(key in run, any(a <= key < b for batch in batches for a, b, _, _ in batch))

    def test_batches_without_strokes_and_idle_ones(self):
        for kind in KINDS:
            run = Run.of_batches(kind, 3, [[], ()])
            self.assertEqual((run.begin, run.end, run.pieces(), run.reach()), (3, 5, [], NO_KEYS))
            idle = Run.of_batches(kind, 0, [[(2, 5, False, ())], [], [(4, 6, True, ())]])
            self.assertEqual((idle.reach(), idle.pieces()), (key_set([(2, 6)]), [(4, 6, ((3, True, ()),))]))

    def test_words_that_are_not_plain(self):
        run = Run.of_batches("tails", 0, [[(0, 1, False, (1, 2, 1)), (0, 1, False, (2, 3))]])
        self.assertEqual(run.entries_at(0), ((1, False, (1, 2, 3)),))
        self.assertEqual(Run.of_batches("last", 0, [[(0, 1, False, (1, 2))]]).entries_at(0), ((1, True, (2,)),))

    def test_each_number_makes_the_store_behind_its_batch(self):
        rng = seeded(622)
        for kind in KINDS:
            batches = [random_batch(rng) for _ in range(4)]
            first = Field((), random_pieces(rng, plain_words(kind, (0, 1), 2)))
            run = Run.of_batches(kind, 6, batches)
            store = first
            self.assertEqual(run.applied(first, 6), first)
            for number, batch in enumerate(batches, 7):
                store = on_store(kind, batch_effects(kind, batch), store)
                self.assertEqual(run.applied(first, number), store)

    def test_errors_in_their_order(self):
        self.bad_kinds(BadKind, Run.of_batches, -1, [None])
        for begin in ODD_VALUES:
            if begin != 10 ** 30:
                self.raised(BadRun, ["window"], Run.of_batches, "list", begin, [None])
        self.raised(BadRun, ["window"], Run.of_batches, "list", 3, [])
        self.raised(BadRun, ["window"], Run.of_batches, "list", 0, ())
        put = (0, 1, True, (1,))
        for batches, place in (([None], 0), ([[put], [put, put, None, None], None], 2), ([[put, "x"], None], 1), ([[], put], 0),
                               ([[put], {}, [None]], 0), ([(put, put, (0, 1, True, [1]))], 2)):
            self.raised(BadBatch, [place], Run.of_batches, "list", 0, batches)

    def test_arguments_stay(self):
        batch = [(0, 2, True, (1,))]
        batches = [batch, []]
        run = Run.of_batches("list", 0, batches)
        said = run.pieces()
        batch.append((4, 5, True, (2,)))
        batches.pop()
        self.assertEqual((run.pieces(), run.end, run.reach()), (said, 2, key_set([(0, 2)])))


if __name__ == "__main__":
    unittest.main()
