"""Points 136 to 145, 147 and 149: desks."""

import itertools
import unittest

from leastshelf.books import Book
from leastshelf.cursors import Cursor
from leastshelf.deeds import narrowed_step
from leastshelf.desks import Desk
from leastshelf.errors import (BadKey, BadKind, BadLimit, BadLog, BadStep, Fewer, Loose, NoPlace, NotClosed, Outside, Refused,
                               Sandwiched, Taken, Unknown)
from leastshelf.futures import answers
from leastshelf.kinds import under
from leastshelf.leastruns import entry_count, least_run, whole_counts
from leastshelf.leasts import narrowed_least
from leastshelf.ledgers import history_count, history_run, ledger
from leastshelf.logtexts import read_log
from leastshelf.orders import sandwiched, way_back
from leastshelf.runs import Run
from leastshelf.shelves import Shelf
from leastshelf.syncs import fewest_firms, may_leave_out, needed_firms
from leastshelf.windows import device_windows, is_right, numbers_up
from desking import KEYS, SlowDesk, do_deed, random_deeds
from samples import KINDS, ODD_VALUES, TOP, Raising, plain, random_steps, seeded
from stacks import NO_KEYS, slow_up_to
from test_batches import BAD_STROKES
from test_deeds import BAD_KEYS, BAD_NAMES, BAD_NUMBERS, bad_steps
from test_leasts import BAD_LIMITS, tuples_throughout
from test_orders import BAD_LOTS
from test_stretches import BAD_STRETCHES

MOST = 10 ** 9
ERRORS = {"loose": (Loose, None), "fewer": (Fewer, 1), "taken": (Taken, 1), "unknown": (Unknown, 1), "outside": (Outside, 1)}


def put(letter, a=0, b=4):
    """Returns a batch that puts a letter."""
    return [(a, b, True, (letter,))]


def desk_behind(kind, deeds, most=8):
    """Returns a desk behind some deeds."""
    desk = Desk(kind, most=most)
    for deed in deeds:
        do_deed(desk, deed)
    return desk


def runs_of_deeds(number, many=3, longest=30, crashes=0.3):
    """Yields for each of many desks the steps of random_deeds."""
    rng = seeded(number)
    for kind in KINDS:
        for most in itertools.islice((8, 2, 1, 3, 8), many):
            yield kind, most, random_deeds(rng, kind, most, rng.randrange(longest // 2, longest), crashes)


def shelf_rows(desk):
    """Returns what a desk holds, as plain values and runs."""
    return (desk.noted, desk.kept, desk.spilled, desk.log(), desk.shelf().runs(), desk.marks(), desk.names(), desk.steps(),
            desk.least_store(), desk.as_text())


class NewDeskTest(Raising, unittest.TestCase):
    def test_a_new_desk(self):
        for kind in KINDS:
            for most in range(1, 9):
                desk = Desk(kind, most=most)
                self.assertEqual((desk.kind, desk.most, desk.loose, desk.noted, desk.kept, desk.spilled), (kind, most, 0, 0, 0, 0))
                self.assertEqual((desk.names(), desk.marks(), desk.log(), desk.steps(), desk.as_text()), ([], [], [], [], ""))
                self.assertEqual((desk.shelf(), desk.store(), desk.least_store()), (Shelf(kind, []), [], (((),), ())))
                self.assertEqual((desk.count_at(0), desk.whole_count(), desk.read(TOP - 1)), (0, 0, ()))
            self.assertEqual(Desk(kind).most, 8)
        self.assertRaises(TypeError, Desk, "set", 3)

    def test_errors_in_their_order(self):
        self.bad_kinds(BadKind, Desk)
        self.bad_kinds(BadKind, Desk, most=0)
        for most in BAD_LIMITS:
            self.raised(BadLimit, [most], Desk, "set", most=most)


class StepsTest(Raising, unittest.TestCase):
    def test_points_138_and_140_a_desk_and_a_book(self):
        met = set()
        for kind, most, deeds in runs_of_deeds(140, 4):
            desk = Desk(kind, most=most)
            for deed, _, book in deeds:
                if deed[0] in ("spill", "pour", "split"):
                    least = desk.least_store()
                    self.assertIsNone(do_deed(desk, deed))
                    self.assertEqual(desk.least_store(), least)
                else:
                    said = book.twin().answer(deed)
                    self.assertEqual(desk.twin().answer(deed), said)
                    self.assertEqual(desk.answer(deed), said)
                    met.add((deed[0], said[0], said[1] if said[0] == "refused" else None))
                    book = book.twin()
                    book.answer(deed)
                self.assertEqual(desk.least_store(), book.least_store())
                self.assertTrue(tuples_throughout(desk.least_store()))
                self.assertEqual((desk.loose, desk.names(), desk.store()), (book.loose, book.names(), book.store()))
                self.assertEqual([desk.view(name) for name in book.names()], [book.view(name) for name in book.names()])
        refusals = {("write", "loose"), ("crash", "fewer"), ("hold", "taken"), ("narrow", "unknown"), ("narrow", "outside"),
                    ("drop", "unknown"), ("ask", "unknown"), ("ask", "outside")}
        self.assertEqual({(word, reason) for word, told, reason in met if told == "refused"}, refusals)

    def test_methods(self):
        for kind, most, deeds in runs_of_deeds(1380, 2):
            desk, other = Desk(kind, most=most), Desk(kind, most=most)
            for deed, _, _ in deeds:
                told = do_deed(desk, deed)
                if told is None:
                    do_deed(other, deed)
                    continue
                call = getattr(other, deed[0])
                if told[0] == "refused":
                    error, place = ERRORS[told[1]]
                    before = shelf_rows(other)
                    self.raised(error, None if place is None else [deed[place]], call, *deed[1:])
                    self.assertEqual(shelf_rows(other), before)
                else:
                    self.assertEqual(call(*deed[1:]), told[1] if told[0] == "word" else None)
                self.assertEqual(shelf_rows(other), shelf_rows(desk))

    def test_points_136_and_137_numbers_logs_and_states(self):
        for kind, most, deeds in runs_of_deeds(137):
            desk = Desk(kind, most=most)
            for deed, slow, _ in deeds:
                self.same(desk, slow)
                do_deed(desk, deed)

    def same(self, desk, slow):
        """The desk holds what the slow desk does."""
        self.assertEqual((desk.noted, desk.kept, desk.spilled), (slow.noted(), slow.kept, slow.spilled))
        self.assertEqual((desk.loose, desk.log(), desk.marks()), (slow.noted() - slow.kept, slow.log(), slow.marks()))
        self.assertTrue(all(isinstance(batch, tuple) for _, batch in desk.log()))
        self.assertEqual([desk.read(key) for key in KEYS], [slow.state(key, slow.noted()) for key in KEYS])
        for name, (number, a, b) in slow.views.items():
            for key in KEYS:
                if a <= key < b:
                    self.assertEqual(desk.ask(name, key), slow.state(key, number))
        self.assertEqual((desk.shelf(), desk.steps(), desk.as_text()), (slow.shelf, slow.steps, slow.text()))

    def test_point_139_spills_pours_and_splits(self):
        met = {"spill": 0, "pour": 0, "split": 0}
        for kind, most, deeds in runs_of_deeds(139, 5, 40):
            desk = Desk(kind, most=most)
            for deed, slow, _ in deeds:
                do_deed(desk, deed)
                if deed[0] in met:
                    met[deed[0]] += 1
                    twin = SlowDesk(kind, most)
                    twin.__dict__.update(slow.__dict__)
                    twin.do(deed)
                    self.same(desk, twin)
        self.assertGreater(min(met.values()), 30)

    def test_bad_steps_change_nothing(self):
        desk = desk_behind("heads", [("write", put(1)), ("hold", 1, 0, 3), ("sync",), ("spill",), ("write", put(2))], 1)
        said = shelf_rows(desk)
        for thing in bad_steps():
            self.raised(BadStep, [0], desk.answer, thing)
            self.assertEqual((desk.noted, desk.kept, desk.names()), (2, 1, [1]))
        for thing in ODD_VALUES + tuple([one] for one in BAD_STROKES) + (5, {}):
            self.raised(BadStep, [0], desk.write, thing)
        for thing in BAD_NUMBERS:
            self.raised(BadStep, [0], desk.crash, thing)
        for name in BAD_NAMES:
            for call, more in ((desk.drop, ()), (desk.view, ()), (desk.ask, (1,)), (desk.hold, (1, 2)), (desk.narrow, (1, 2))):
                self.raised(BadStep, [0], call, name, *more)
        for key in BAD_KEYS:
            self.raised(BadStep, [0], desk.read, key)
            self.raised(BadStep, [0], desk.ask, 1, key)
        for stretch in BAD_STRETCHES:
            if isinstance(stretch, tuple) and len(stretch) == 2:
                self.raised(BadStep, [0], desk.hold, 1, *stretch)
                self.raised(BadStep, [0], desk.narrow, 7, *stretch)
        self.raised(Unknown, [5], desk.view, 5)
        self.raised(Loose, None, desk.write, [])
        self.assertEqual(shelf_rows(desk), said)

    def test_views_over_spills_pours_and_splits(self):
        for kind in KINDS:
            word = plain(kind, (1,))
            desk = desk_behind(kind, [("write", put(1)), ("hold", 3, 1, 9), ("write", put(2)), ("hold", 4, 0, 2), ("sync",), ("spill",),
                                      ("write", [(2, 6, True, ())]), ("hold", 5, 0, 9), ("sync",), ("spill",)])
            said = [desk.view(name) for name in (3, 4, 5)]
            self.assertEqual((said[0], said[2][2]), ((1, 9, [(1, 4, word)]), [(0, 2, plain(kind, (2,)))]))
            for deed in (("split", [0, 1]), ("pour", [0, 1]), ("pour", [0]), ("split", [0]), ("narrow", 3, 2, 4)):
                do_deed(desk, deed)
                self.assertEqual([desk.view(name) for name in (4, 5)], said[1:])
                self.assertEqual(desk.ask(3, 3), word)
            self.assertEqual(desk.marks(), [(1, 2, 4), (2, 0, 2), (3, 0, 9)])
            self.raised(Outside, [3], desk.ask, 3, 1)

    def test_point_147_cursors(self):
        rng = seeded(147)
        for kind, most, deeds in runs_of_deeds(1470, 2):
            desk = Desk(kind, most=most)
            for deed, _, _ in deeds:
                do_deed(desk, deed)
            for name in desk.names():
                pieces = desk.view(name)[2]
                cursor = Cursor(desk, name)
                front, back = [], []
                while not cursor.done:
                    piece, row = (cursor.forward(), front) if rng.random() < 0.5 else (cursor.backward(), back)
                    row += [piece] if piece is not None else []
                    if desk.shelf().runs():
                        desk.pour(list(range(len(desk.shelf()))))
                self.assertEqual(front + back[::-1], pieces)
            self.assertEqual(desk.names(), [])
        self.raised(Unknown, [3], Cursor, Desk("set"), 3)
        self.raised(BadStep, [0], Cursor, Desk("set"), True)

    def test_futures_of_desks(self):
        desk = desk_behind("set", [("write", put(1)), ("sync",), ("spill",), ("write", put(2))], 1)
        self.assertEqual(answers(desk, [("read", 0), ("write", []), ("crash", 0), ("read", 0)]),
                         [("word", (2,)), ("refused", "loose"), ("done",), ("word", (1,))])
        self.assertEqual(desk.read(0), (2,))


class ShelfTest(Raising, unittest.TestCase):
    def test_point_141_reads_of_the_shelf(self):
        poured = 0
        for kind, most, deeds in runs_of_deeds(141):
            desk = Desk(kind, most=most)
            for deed, slow, _ in deeds:
                if slow.spilled:
                    run = Run.of_batches(kind, 0, slow.batches[:slow.spilled])
                    shelf = desk.shelf()
                    self.assertEqual([shelf.read(key) for key in KEYS], [slow_up_to([run], key, MOST)[1] for key in KEYS])
                    for number, a, b in desk.marks():
                        keys = [key for key in KEYS if a <= key < b]
                        self.assertEqual([shelf.read(key, number) for key in keys], [slow_up_to([run], key, number)[1] for key in keys])
                    twin = desk.twin()
                    twin.pour(list(range(len(shelf))))
                    one = twin.shelf().run_at(0)
                    least = least_run([run], desk.marks(), NO_KEYS)
                    self.assertEqual((len(twin.shelf()), one.begin, one.end), (1, 0, slow.spilled))
                    self.assertEqual(one.contents(), least.contents())
                    poured += 1
                do_deed(desk, deed)
        self.assertGreater(poured, 150)

    def test_point_142_counts(self):
        for kind, most, deeds in runs_of_deeds(142, 3, 24):
            desk = Desk(kind, most=most)
            for deed, slow, _ in deeds:
                self.counts(desk, slow)
                do_deed(desk, deed)

    def counts(self, desk, slow):
        """The counts of a desk are those of point 142."""
        kind, history = desk.kind, slow.history
        told = [desk.count_at(key) for key in KEYS]
        said = []
        for key in KEYS:
            idle = [batch for _, batch in slow.log() if not any(a <= key < b and (clear or word) for a, b, clear, word in batch)]
            said.append(sum(len(run.entries_at(key)) for run in slow.shelf) + len(slow.log()) - len(idle))
        self.assertEqual(told, said)
        self.assertGreaterEqual(desk.whole_count(), history_count(kind, history, most=desk.most))
        run = history_run(kind, history, most=desk.most)
        if run is not None:
            least = least_run([run], ledger(kind, history, most=desk.most)[1], NO_KEYS)
            self.assertTrue(all(entry_count(least, key) <= many for key, many in zip(KEYS, told)))
        if slow.spilled:
            least = least_run([Run.of_batches(kind, 0, slow.batches[:slow.spilled])], slow.marks(), NO_KEYS)
            for key in KEYS:
                self.assertLessEqual(entry_count(least, key), sum(len(one.entries_at(key)) for one in slow.shelf))
        twin = desk.twin()
        twin.sync()
        if twin.spilled < twin.kept:
            twin.spill()
        if len(twin.shelf()):
            twin.pour(list(range(len(twin.shelf()))))
        self.assertEqual(twin.whole_count(), history_count(kind, history + [("sync",)], most=desk.most))
        if run is not None:
            least = least_run([run], slow.marks(), NO_KEYS)
            self.assertEqual([twin.count_at(key) for key in KEYS], [entry_count(least, key) for key in KEYS])

    def test_whole_counts_and_their_edges(self):
        for kind in KINDS:
            word = plain(kind, (1,))
            desk = desk_behind(kind, [("write", [(0, TOP, True, word), (3, 5, False, ())]), ("write", [(0, 9, False, ())])])
            self.assertEqual((desk.whole_count(), desk.count_at(0), desk.count_at(TOP - 1)), (TOP, 1, 1))
            desk.write([(2, 4, True, ())])
            self.assertEqual((desk.whole_count(), desk.count_at(2), desk.count_at(4)), (TOP + 2, 2, 1))
            desk.sync()
            self.assertEqual(desk.whole_count(), TOP + 2)
            desk.spill()
            self.assertEqual((desk.whole_count(), desk.count_at(2)), (TOP - 2, 0))
            desk.write([(2, 4, True, ())])
            self.assertEqual((desk.whole_count(), desk.count_at(2)), (TOP, 1))
            self.assertEqual(desk.whole_count(), sum(whole_counts(run)[0] for run in desk.shelf()) + 2)
            for key in ODD_VALUES + (TOP, "3", (3,)):
                self.raised(BadKey, [key], desk.count_at, key)

    def test_crash_texts_stand_for_crashes_in_histories(self):
        desk = desk_behind("list", [("write", put(1)), ("sync",), ("write", put(2)), ("write", put(3))])
        history = [("write", put(1)), ("sync",), ("write", put(2)), ("write", put(3)), ("crash", 1)]
        desk.crash_text(desk.as_text()[:-3])
        self.assertEqual((desk.noted, desk.whole_count()), (2, 8))
        self.assertEqual(history_count("list", history), 4)

    def test_refused_deeds_change_nothing(self):
        desk = Desk("set")
        self.raised(Refused, ["spill"], desk.spill)
        self.raised(NoPlace, [None], desk.pour, [])
        self.raised(NoPlace, [0], desk.pour_split, [0])
        for deed in (("write", put(1, 0, 5)), ("write", put(1, 0, 9)), ("sync",), ("spill",), ("write", put(1, 4, 9)), ("sync",),
                     ("spill",), ("write", put(2, 8, 9)), ("sync",), ("spill",), ("write", put(7)), ("hold", 3, 0, 9)):
            do_deed(desk, deed)
        said = shelf_rows(desk)
        self.raised(Refused, ["spill"], desk.spill)
        for lot in BAD_LOTS:
            self.raised(NoPlace, [None], desk.pour, lot)
            self.raised(NoPlace, [None], desk.pour_split, lot)
        for place in ODD_VALUES + (3, "0", (0,)):
            self.raised(NoPlace, [place], desk.pour, [0, place, None])
            self.raised(NoPlace, [place], desk.pour_split, (2, place, None))
        self.raised(NotClosed, [1], desk.pour, [0, 2])
        self.raised(Sandwiched, [8], desk.pour_split, [2, 0])
        self.assertEqual(shelf_rows(desk), said)

    def test_refusals_of_lots_against_orders(self):
        rng = seeded(1390)
        met = {NotClosed: 0, Sandwiched: 0}
        for kind in KINDS:
            desk = Desk(kind)
            for _ in range(5):
                a = rng.randrange(6)
                for deed in (("write", put(1, a, a + 3)), ("sync",), ("spill",)):
                    do_deed(desk, deed)
            said, reaches = shelf_rows(desk), desk.shelf().reaches()
            for lot in itertools.combinations(range(5), 2):
                back, told = way_back(reaches, lot), sandwiched(reaches, lot)
                if back is not None:
                    self.raised(NotClosed, [back[1]], desk.pour, lot)
                    met[NotClosed] += 1
                if told is not None:
                    self.raised(Sandwiched, [told[0]], desk.pour_split, list(lot))
                    met[Sandwiched] += 1
            self.assertEqual(shelf_rows(desk), said)
        self.assertGreater(min(met.values()), 10)

    def test_a_split_without_an_outcome_changes_nothing(self):
        desk = desk_behind("list", [("write", []), ("sync",), ("spill",)])
        said = shelf_rows(desk)
        self.assertIsNone(desk.pour_split([0]))
        self.assertEqual(shelf_rows(desk), said)
        desk.pour([0])
        self.assertEqual(desk.steps()[-5:], [("lay", 1), ("firm", 1), ("list", 1, (1,)), ("firm", "sheet"), ("clear", 0)])


class CrashTest(Raising, unittest.TestCase):
    def test_crashes_to_each_number(self):
        for kind in KINDS:
            deeds = [("write", put(1)), ("sync",), ("spill",), ("write", put(2)), ("sync",), ("write", put(3)), ("hold", 3, 0, 2),
                     ("write", []), ("write", [(1, 2, True, ())])]
            for number in range(4):
                desk = desk_behind(kind, deeds)
                self.assertIsNone(desk.crash(number))
                self.assertEqual((desk.noted, desk.kept, desk.spilled, desk.loose), (2 + number, 2 + number, 1, 0))
                self.assertEqual((desk.names(), desk.marks(), desk.steps()), ([], [], None))
                self.assertEqual([line for line, _ in desk.log()], list(range(2, 3 + number)))
                self.assertEqual(desk.read(1), plain(kind, ((2,), (3,), (3,), ())[number]))
                desk.write(put(9))
                self.assertEqual((desk.noted, desk.log()[-1]), (3 + number, (3 + number, tuple(put(9)))))
                desk.sync()
                desk.spill()
                self.assertEqual((desk.steps(), desk.shelf().run_at(0).begin, desk.shelf().run_at(0).end), (None, 1, 3 + number))
            desk = desk_behind(kind, deeds)
            said = shelf_rows(desk)
            for number in (4, 5, 10 ** 30):
                self.raised(Fewer, [number], desk.crash, number)
            self.assertEqual(shelf_rows(desk), said)

    def test_point_143_texts_that_stop_at_each_character(self):
        for kind in KINDS:
            for deeds in ([("write", put(1)), ("write", put(2, 3, 9) + [(1, 2, False, (7, 5))]), ("sync",), ("write", []),
                           ("write", [(0, 3, True, ())]), ("hold", 3, 0, 5)],
                          [("write", put(1)), ("sync",), ("spill",), ("write", []), ("sync",), ("write", put(2)), ("write", put(3))],
                          [("write", put(1)), ("write", put(2))], [("write", put(4)), ("sync",)], []):
                desk = desk_behind(kind, deeds)
                text = desk.as_text()
                self.assertEqual([number for number, _ in read_log(text)], list(range(desk.spilled + 1, desk.noted + 1)))
                sure = desk.kept - desk.spilled
                for many in range(len(text) + 1):
                    twin = desk.twin()
                    lines = text[:many].count("\n")
                    if lines < sure:
                        self.raised(Refused, ["crash"], twin.crash_text, text[:many])
                        self.assertEqual(shelf_rows(twin), shelf_rows(desk))
                        continue
                    self.assertIsNone(twin.crash_text(text[:many]))
                    other = desk.twin()
                    other.crash(lines - sure)
                    self.assertEqual(shelf_rows(twin), shelf_rows(other))
                    self.assertEqual(twin.log(), read_log(text[:many]))

    def test_texts_that_are_no_beginning(self):
        desk = desk_behind("set", [("write", put(1)), ("sync",), ("write", put(2)), ("write", put(3)), ("hold", 3, 0, 5)])
        said, text = shelf_rows(desk), desk.as_text()
        self.assertEqual(text, "1 ; 0 4 put 1\n2 ; 0 4 put 2\n3 ; 0 4 put 3\n")
        for thing in tuple(thing for thing in ODD_VALUES if not isinstance(thing, str)) + ([text], 5, text.encode()):
            self.raised(BadLog, [0], desk.crash_text, thing)
        for wrong, line in (("x", 0), ("lists", 0), ("\n", 0), ("1 ; 0 4 put 2\n", 0), ("1 ; 0 4 put 1 ", 0), (text[:14] + "3", 1),
                            (text[:14] + "\n", 1), (text[:20] + "9", 1), (text[:28] + "4\n", 2), (text + "4", 3), (text + "\n", 3),
                            (text[:-1] + " ", 2), (text * 2, 3), (" " + text, 0), (text[:27] + " \n", 1)):
            self.raised(BadLog, [line], desk.crash_text, wrong)
        self.assertEqual(shelf_rows(desk), said)
        self.raised(Refused, ["crash"], desk.crash_text, "")
        self.raised(BadLog, [0], Desk("set").crash_text, "1")
        self.assertIsNone(Desk("set").crash_text(""))

    def test_point_143_a_crash_of_an_empty_log(self):
        desk = desk_behind("set", [("write", put(1)), ("sync",), ("spill",), ("hold", 3, 0, 5)])
        desk.crash_text("")
        self.assertEqual((desk.names(), desk.steps(), desk.read(0)), ([], None, (1,)))


class DeviceTest(Raising, unittest.TestCase):
    def test_point_144_steps_behind_each_deed(self):
        desk, said = Desk("list"), []
        # each deed with its device steps
        rows = (
            (("write", put(1, 0, 6)), [("note", 1)]), (("write", put(2, 3, 9)), [("note", 2)]), (("hold", 5, 0, 9), []),
            (("sync",), [("firm", "log"), ("tell", 2)]), (("sync",), []), (("read", 3), []),
            (("spill",), [("lay", 0), ("firm", 0), ("list", 2, (0,)), ("firm", "sheet"), ("trim", 2)]),
            (("write", [(6, 12, False, (3,))]), [("note", 3)]), (("narrow", 5, 0, 2), []), (("drop", 5), []), (("drop", 5), []),
            (("sync",), [("firm", "log"), ("tell", 3)]),
            (("spill",), [("lay", 1), ("firm", 1), ("list", 3, (0, 1)), ("firm", "sheet"), ("trim", 3)]),
            (("split", [0, 1]), [("lay", 2), ("lay", 3), ("lay", 4), ("firm", 2), ("firm", 3), ("firm", 4), ("list", 3, (2, 4, 3)),
                                 ("firm", "sheet"), ("clear", 0), ("clear", 1)]),
            (("pour", [2, 0]), [("lay", 5), ("firm", 5), ("list", 3, (5, 4)), ("firm", "sheet"), ("clear", 2), ("clear", 3)]),
            (("pour", [0]), [("lay", 6), ("firm", 6), ("list", 3, (6, 5)), ("firm", "sheet"), ("clear", 4)]),
            (("write", []), [("note", 4)]), (("crash", 5), []),
        )
        for deed, steps in rows:
            do_deed(desk, deed)
            said += steps
            self.assertEqual(desk.steps(), said)
        twin = desk.twin()
        twin.crash(0)
        desk.crash_text("")
        for one in (twin, desk):
            self.assertIsNone(one.steps())
            for deed in (("write", put(1)), ("sync",), ("spill",), ("pour", [0, 1])):
                do_deed(one, deed)
                self.assertIsNone(one.steps())

    def test_point_144_against_the_slow_desk(self):
        for kind, most, deeds in runs_of_deeds(144, 5, 40, 0):
            desk = Desk(kind, most=most)
            for deed, slow, _ in deeds:
                self.assertEqual(desk.steps(), slow.steps)
                self.assertIsNotNone(desk.steps())
                do_deed(desk, deed)

    def test_point_145(self):
        longest = 0
        for kind, most, deeds in runs_of_deeds(145, 3, 40, 0):
            desk = Desk(kind, most=most)
            for deed, _, _ in deeds:
                do_deed(desk, deed)
            steps = desk.steps()
            longest = max(longest, len(steps))
            self.assertTrue(is_right(steps))
            firms = [place for place, step in enumerate(steps) if step[0] == "firm"]
            for part, start, end in device_windows(steps):
                self.assertEqual(len([place for place in firms if start < place < end and steps[place][1] == part]), 1)
            for place in firms:
                self.assertFalse(is_right(steps[:place] + steps[place + 1:]))
                self.assertFalse(may_leave_out(steps, [place]))
            self.assertEqual(needed_firms(steps), firms)
            self.assertEqual(len(fewest_firms([step for step in steps if step[0] != "firm"])), len(firms))
            self.assertEqual(numbers_up(steps), list(range(desk.kept, desk.noted + 1)))
        self.assertGreater(longest, 60)

    def test_new_files(self):
        # the least file that was not laid, whatever was cleared
        desk = desk_behind("set", [("write", put(1)), ("sync",), ("spill",), ("pour", [0]), ("pour", [0]), ("split", [0])])
        self.assertEqual([step[1] for step in desk.steps() if step[0] == "lay"], [0, 1, 2, 3])
        self.assertEqual(desk.steps()[-2:], [("firm", "sheet"), ("clear", 2)])


class NarrowedTest(unittest.TestCase):
    def test_point_149(self):
        pairs = [(one, other) for one in KINDS for other in KINDS if one != other and under(one, other)]
        rng = seeded(149)
        for one, other in pairs:
            for most in (8, 2):
                desk, narrow = Desk(other, most=most), Desk(one, most=most)
                for deed, _, _ in random_deeds(rng, other, most, 20, 0.2):
                    told = do_deed(desk, deed)
                    if told is None:
                        do_deed(narrow, deed)
                    else:
                        said = ("word", plain(one, told[1])) if told[0] == "word" else told
                        self.assertEqual(narrow.answer(narrowed_step(one, deed)), said)
                    self.assertEqual(narrow.least_store(), narrowed_least(one, desk.least_store()))
                    self.assertTrue(all(narrow.count_at(key) <= desk.count_at(key) for key in KEYS))


class TwinTest(unittest.TestCase):
    def test_twins(self):
        for kind, most, deeds in runs_of_deeds(1361, 2, 30, 0.05):
            desk = Desk(kind, most=most)
            for deed, slow, _ in deeds:
                twin = desk.twin()
                self.assertIsInstance(twin, Desk)
                self.assertEqual((twin.kind, twin.most, shelf_rows(twin)), (kind, most, shelf_rows(desk)))
                said = shelf_rows(desk)
                do_deed(twin, deed)
                for step in random_steps(seeded(slow.noted()), 6):
                    twin.answer(step)
                self.assertEqual(shelf_rows(desk), said)
                other = desk.twin()
                do_deed(desk, deed)
                self.assertEqual(shelf_rows(other), said)

    def test_point_1_arguments_and_results(self):
        batch = [(0, 3, True, (1,))]
        desk = Desk("list")
        desk.write(batch)
        batch.append((0, 9, True, (2,)))
        desk.hold(3, 0, 2)
        desk.sync()
        desk.spill()
        desk.write([(1, 2, False, (2,))])
        lot = [0, 0]
        desk.pour(lot)
        said = shelf_rows(desk)
        for told in (desk.log(), desk.marks(), desk.names(), desk.steps(), desk.store(), desk.view(3)[2], desk.shelf().runs()):
            told.clear()
        self.assertEqual((shelf_rows(desk), lot), (said, [0, 0]))
        self.assertEqual((desk.store(), desk.view(3)), ([(0, 1, (1,)), (1, 2, (1, 2)), (2, 3, (1,))], (0, 2, [(0, 2, (1,))])))

    def test_shelves_that_were_returned_stay(self):
        desk = desk_behind("list", [("write", put(1)), ("sync",), ("spill",)])
        shelf = desk.shelf()
        for deed in (("write", put(2)), ("sync",), ("spill",), ("pour", [0, 1])):
            do_deed(desk, deed)
        self.assertEqual((len(shelf), shelf.read(0), shelf.run_at(0).end), (1, (1,), 1))


class ExampleTest(Raising, unittest.TestCase):
    def test_example(self):
        desk = Desk("list", most=2)
        desk.write([(0, 4, True, (1,))])
        desk.hold(7, 1, 3)
        desk.write([(2, 6, False, (2,))])
        desk.sync()
        desk.spill()
        self.assertEqual([desk.ask(7, 2), desk.shelf().run_at(0).entries_at(2), desk.whole_count(), desk.marks(), desk.log()],
                         [(1,), ((1, True, (1,)), (2, False, (2,))), 7, [(1, 1, 3)], []])
        self.raised(Refused, ["spill"], Desk("bag").spill)

    def test_each_number_of_loose_batches(self):
        for kind in KINDS:
            for most in range(1, 9):
                desk, book = Desk(kind, most=most), Book(kind, most=most)
                for number in range(most):
                    for one in (desk, book):
                        one.write([(number, number + 3, number % 2 == 0, (number,))])
                    self.assertEqual((desk.loose, desk.least_store()), (number + 1, book.least_store()))
                self.assertEqual(desk.answer(("write", ())), ("refused", "loose"))
                self.raised(Loose, None, desk.write, ())
                for number in range(most + 1):
                    twin, other = desk.twin(), book.twin()
                    twin.crash(number)
                    other.crash(number)
                    self.assertEqual(twin.least_store(), other.least_store())


if __name__ == "__main__":
    unittest.main()
