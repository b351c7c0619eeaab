"""Point 0.5: everything holds up to the sizes that it names."""

import functools
import unittest

from leastshelf.batches import after, batch_between, batch_effects, narrowed_batch, narrowed_field, on_store, touched
from leastshelf.books import Book
from leastshelf.classes import class_numbers, least_table, parting_row, without_steps
from leastshelf.cursors import Cursor
from leastshelf.desks import Desk
from leastshelf.devices import Device, come_up
from leastshelf.dropping import changes, gone, gone_at
from leastshelf.fields import Field
from leastshelf.futures import alike, answers, parting
from leastshelf.keepers import kept_fault, kept_map
from leastshelf.kinds import joined, plain_word, rest
from leastshelf.leastruns import least_run, whole_counts
from leastshelf.leasts import history_of, losses, narrowed_least, plain_least
from leastshelf.ledgers import history_count, ledger
from leastshelf.listings import listing
from leastshelf.logtexts import log_text, read_log
from leastshelf.menus import Menu
from leastshelf.noticed import notices, parting_beneath
from leastshelf.orders import below, lots_order, pour_order, ring, sandwiched, split_order, way_back
from leastshelf.overlays import gaps, key_set, meeting, overlay, union, unlike, without
from leastshelf.partings import pair_shelf, parted_outcome, refilled, turned_pair
from leastshelf.pours import poured, poured_lots, split_poured
from leastshelf.plans import Plan
from leastshelf.prices import PriceTable
from leastshelf.replays import replay_key
from leastshelf.rightness import erring, mapping
from leastshelf.rows import row_at, stack_reach, stack_up_to
from leastshelf.runs import Run
from leastshelf.scans import scan
from leastshelf.shelves import Shelf
from leastshelf.sizes import added_sizes, played, spill_sizes
from leastshelf.spares import fewest_to_drop, kept_cuts, spare_table
from leastshelf.spreads import fewest_writings, most_spills, spread, unlike_price, unlike_sizes
from leastshelf.steps import row_letters, running, steps_between
from leastshelf.swaps import change_places, swallowed
from leastshelf.syncs import apart_windows, fewest_firms, may_leave_out, needed_firms, own_apart
from leastshelf.tables import reached, run_table
from leastshelf.toldlots import group_fault, group_outcome, group_poured, swapped_parting
from leastshelf.trials import tried
from leastshelf.windows import breaking, device_windows, faults, is_right, numbers_up
from samples import KINDS, TOP, plain
from stacks import then_all

LONG = tuple((7 * at * at + at) % 41 for at in range(60))


def long_word(number):
    """Returns a word of 60 letters."""
    return tuple(letter + number for letter in LONG)


def many_strokes(number):
    """Returns a batch whose strokes lie at other keys for each number."""
    a = number * 37 % 900
    return [(a, a + 150, number % 11 == 3, (number % 17,)), (a // 2, a // 2 + 90, False, (number % 7, number % 3))]


@functools.lru_cache(maxsize=None)
def run_tuple(kind):
    """Returns 24 runs of 60 batches, the oldest first."""
    return tuple(Run.of_batches(kind, 60 * at, [many_strokes(60 * at + number) for number in range(60)])
                 for at in range(24))


def run_stack(kind):
    """Returns a stack of 24 runs of 60 batches."""
    return list(run_tuple(kind))


class WordsTest(unittest.TestCase):
    def test_long_words(self):
        for kind in KINDS:
            row = [long_word(at) for at in range(66)]
            told = joined(kind, *row)
            self.assertEqual(told, plain(kind, [letter for word in row for letter in word]))
            self.assertLessEqual(len(told), 4000)
            start = joined(kind, *row[:33])
            behind = rest(kind, start, told)
            if behind is not None:
                self.assertEqual(joined(kind, start, behind), told)
            self.assertIs(swallowed(kind, start, told), kind in ("set", "tails", "last"))

    def test_long_rests_under_tails(self):
        one, other = tuple(range(2000)), tuple(range(1000)) + tuple(range(2000, 4000)) + tuple(range(1000, 2000))
        self.assertEqual(rest("tails", one, other), other[1000:])
        self.assertEqual(rest("list", one, one + other[:2000]), other[:2000])
        self.assertEqual(rest("bag", one, tuple(range(4000))), tuple(range(2000, 4000)))

    def test_long_rows_of_effects(self):
        for kind in KINDS:
            row = [(at % 20 == 19, plain_word(kind, long_word(at))) for at in range(60)]
            told = running(kind, row)
            steps = steps_between(kind, told)
            self.assertEqual(running(kind, steps), told)
            self.assertLessEqual(row_letters(steps), row_letters(row))
            self.assertIsInstance(change_places(kind, row[0], row[1]), bool)


class FieldsTest(unittest.TestCase):
    def test_fields_of_400_pieces(self):
        one = Field((), [(3 * at, 3 * at + 2, (at % 7,)) for at in range(400)])
        other = Field((), [(3 * at + 1, 3 * at + 3, (at % 5,)) for at in range(400)])
        self.assertEqual((len(one), one.size, one.at(1198), one.at(1199)), (400, 800, (0,), ()))
        self.assertEqual(len(list(gaps([one, other]))), 1200)
        self.assertEqual(len(overlay([one, other] * 12, lambda things: things[0], neutral=())), 400)
        self.assertEqual(unlike(one, one.painted(1198, TOP, (9,))), (1198, (0,), (9,)))
        told = batch_between("list", one, other)
        self.assertEqual(on_store("list", batch_effects("list", told[:40]), one).within(0, told[39][1]),
                         other.within(0, told[39][1]))
        self.assertEqual(len(narrowed_field("list", one)), 400)

    def test_key_sets_of_60_stretches(self):
        one, other = key_set([(9 * at, 9 * at + 5) for at in range(60)]), key_set([(9 * at + 4, 9 * at + 7) for at in range(60)])
        self.assertEqual((len(union(one, other)), without(one, other).size, meeting(one, other)), (60, 240, 4))

    def test_batches_of_40_strokes(self):
        batch = [(at, 900000 + 7 * at, at % 13 == 12, long_word(at)) for at in range(40)]
        for kind in KINDS:
            effects = batch_effects(kind, batch)
            self.assertLessEqual(len(effects), 79)
            for key in (0, 5, 39, 500000, 900100):
                said = ()
                for a, b, clear, word in batch:
                    if a <= key < b:
                        said = plain(kind, word) if clear else plain(kind, said + word)
                self.assertEqual(on_store(kind, effects, Field(())).at(key), said)
            self.assertEqual(after(kind, effects, Field((False, ()))), effects)
            self.assertEqual(narrowed_batch(kind, narrowed_batch(kind, batch)), narrowed_batch(kind, batch))
        self.assertEqual(touched(batch).pieces(), [(0, 900273, True)])


class BooksTest(unittest.TestCase):
    def full_book(self, kind):
        """Returns a book with 8 loose batches and 40 live views."""
        book = Book(kind)
        book.write([(50 * at, 50 * at + 30, True, long_word(at)) for at in range(40)])
        book.sync()
        for number in range(8):
            for name in range(5):
                book.hold(11 * number + name, 10 * name, TOP - number)
            book.write([(50 * at + number, 50 * at + 40, False, long_word(at + number)) for at in range(40)])
        return book

    def test_books(self):
        for kind in ("list", "ends", "tails"):
            book = self.full_book(kind)
            self.assertEqual((book.loose, len(book.names())), (8, 40))
            self.assertEqual(book.answer(("write", ())), ("refused", "loose"))
            least = book.least_store()
            self.assertEqual(plain_least(kind, least), least)
            made = Book.made(kind, least)
            self.assertTrue(alike(book, made))
            again = Book(kind)
            self.assertEqual(answers(again, history_of(kind, least))[-1], ("done",))
            self.assertEqual(sum(1 for loss in losses(kind, least)),
                             sum(map(len, least[0])) + sum(len(view[3]) + 2 for view in least[1]) + 1)
            made.drop(48)
            self.assertEqual(parting(book, made), [("ask", 48, 40)])
            self.assertEqual(len(narrowed_least(kind, least)[1]), 40)

    def test_60_steps_of_a_future(self):
        book = self.full_book("tails")
        steps = [("read", 50 * at) for at in range(20)] + [("ask", 44, 50 * at) for at in range(20)] + [("crash", 7)]
        steps += [("write", [(at, at + 9, False, long_word(at))]) for at in range(19)]
        told = answers(book, steps)
        self.assertEqual((len(told), told[41:]), (60, [("done",)] * 8 + [("refused", "loose")] * 11))


class MenusTest(unittest.TestCase):
    def test_menus_of_24_steps_and_400_states(self):
        steps = [("write", ((0, 1, True, (letter,)),)) for letter in range(19)]
        steps += [("sync",), ("read", 0), ("read", 5), ("crash", 1), ("crash", 0)]
        menu = Menu("set", steps, most=1)
        self.assertEqual((len(menu), len(menu.steps()), menu.full_pair()), (400, 24, None))
        table = menu.table()
        self.assertEqual(class_numbers(table), list(range(400)))
        self.assertEqual(least_table(table), table)
        self.assertEqual(len(run_table(table, [at % 24 for at in range(60)])), 60)
        self.assertEqual(len(parting_row(table, 398, 399)), 1)
        self.assertEqual(len(least_table(without_steps(table, list(range(20))))), 1)

    def test_tables_of_400_states(self):
        ring = [[(("a",), (at + 1) % 400), (("b",) if at == 399 else ("a",), at)] for at in range(400)]
        self.assertEqual(class_numbers(ring), list(range(400)))
        self.assertEqual(parting_row(ring, 0, 1), [0] * 398 + [1])
        self.assertEqual(list(reached(ring))[399], (399, [0] * 399))
        unlike_answers = [[((str(at), [number]), at) for number in range(24)] for at in range(400)]
        self.assertEqual(parting_row(unlike_answers, 3, 4), [0])
        self.assertEqual(least_table(unlike_answers), unlike_answers[:1])

    def test_right_tables_of_400_states(self):
        menu = Menu("set", [("write", ((0, 1, True, (letter,)),)) for letter in range(19)] + [("sync",), ("read", 0)], most=1)
        table = menu.table()
        self.assertEqual((len(table), erring(menu, table), mapping(menu, table)), (400, None, class_numbers(table)))
        table[399][20] = (("odd",), 0)
        self.assertEqual((erring(menu, table), mapping(menu, table)), (menu.row_to(399) + [20], None))
        small = Menu("set", [("sync",), ("read", 0)], most=1)
        chain = [[(("done",), min(at + 1, 399)), (("word", () if at < 399 else (1,)), at)] for at in range(400)]
        self.assertEqual(erring(small, chain), [0] * 399 + [1])
        ring = [[(("done",), (at + 1) % 400), (("word", ()), at)] for at in range(400)]
        self.assertEqual(mapping(small, ring), [0] * 400)


class RunsTest(unittest.TestCase):
    def test_runs_of_60_batches_of_40_strokes(self):
        for kind in KINDS:
            batches = [[(at, 700 + 3 * at + number, at % 13 == number % 13, (at, number % 5)) for at in range(40)]
                       for number in range(60)]
            run = Run.of_batches(kind, 5, batches)
            self.assertEqual((run.begin, run.end, run.reach().pieces()), (5, 65, [(0, 876, True)]))
            least = least_run([run], [(at, 0, TOP) for at in range(20, 60)], key_set([(0, 5)]))
            for key in (0, 4, 5, 39, 800):
                for number in (20, 41, 59, 65):
                    self.assertEqual(least.up_to(key, number)[1], run.up_to(key, number)[1])
            self.assertLessEqual(whole_counts(least), whole_counts(run))

    def test_stacks_of_24_runs_under_40_marks(self):
        under = key_set([(40 * at, 40 * at + 9) for at in range(30)])
        marks = [(36 * at + 5, 7 * at, 300 + 9 * at) for at in range(40)]
        for kind in KINDS:
            stack = run_stack(kind)
            least = least_run(stack, marks, under)
            self.assertEqual((least.begin, least.end, least.reach()), (0, 1440, stack_reach(stack)))
            self.assertEqual(least_run([least], marks, under), least)
            self.assertIsNone(parting_beneath(stack, [least], marks, under))
            if kind in ("list", "ends"):
                self.assertNotIn(None, notices(least, marks, under))
            self.assertEqual(row_at(stack, marks, 299)[-1][1], then_all(kind, [run.up_to(299, 1440) for run in stack]))
            self.assertEqual(least.applied(Field(()), 1440).at(299), stack_up_to(stack, 299, 1440)[1])

    def test_long_words_of_entries(self):
        for kind in ("list", "bag", "heads", "tails"):
            batches = [[(0, 9, False, long_word(number))] for number in range(60)]
            run = Run.of_batches(kind, 0, batches)
            least = least_run([run], [(number, 0, 9) for number in range(1, 60, 3)], key_set([]))
            word = plain(kind, [letter for number in range(60) for letter in long_word(number)])
            self.assertEqual(run.up_to(3, 60), (False, word))
            self.assertEqual(least.up_to(3, 60), (True, word))


class LettingGoTest(unittest.TestCase):
    def test_40_marks_over_24_runs(self):
        under, numbers = key_set([(40 * at, 40 * at + 9) for at in range(30)]), [36 * at + 5 for at in range(40)]
        for kind in ("list", "tails"):
            stack = run_stack(kind)
            marks = [(number, 0, TOP) for number in numbers]
            rows = spare_table(stack, under, numbers)
            self.assertEqual((len(rows), rows[41][41]), (42, sum(many * (b - a) for a, b, many in changes(stack, marks, under))))
            kept = kept_cuts(stack, under, numbers, 12)
            left = [(number, 0, TOP) for number in kept[:-1]]
            self.assertEqual(rows[12][41], sum(many * (b - a) for a, b, many in changes(stack, left, under)))
            told = fewest_to_drop(stack, under, numbers, rows[41][41] - rows[12][41])
            self.assertEqual(told, [number for number in numbers if number not in kept])
            for key in (40, 299, 700):
                self.assertEqual(gone(stack, marks, under, left).at(key), gone_at(stack, marks, under, key, told))

    def test_books_with_40_views_and_cursors(self):
        history = [("write", [(at, at + 300, False, long_word(at)), (at + 500, at + 600, True, (at,))]) for at in range(8)]
        history += [("hold", name, name, name + 400) for name in range(40)] + [("narrow", 7, 20, 30), ("crash", 9)]
        for kind in KINDS:
            book = Book(kind)
            for step in history:
                book.answer(step)
            batches, marks = ledger(kind, history)
            self.assertEqual((len(batches), marks[7], len(marks)), (8, (8, 20, 30), 48))
            self.assertGreater(history_count(kind, history), 0)
            for name in range(40):
                pieces = book.view(name)[2]
                self.assertEqual(list(Cursor(book, name).sweep(back=name % 2 == 1)), pieces[::-1] if name % 2 else pieces)
            self.assertEqual(book.names(), [])


class ShelvesTest(unittest.TestCase):
    def test_orders_of_24_reaches_of_60_stretches(self):
        wide = [key_set([(100 * at + 3 * place, 100 * at + 3 * place + 2) for at in range(60)]) for place in range(24)]
        self.assertEqual((way_back(wide, [0, 23, 9]), below(wide, [3]), len(pour_order(wide, list(range(0, 24, 2))))), (None, [], 13))
        chain = [key_set([(100 * at + 3 * place, 100 * at + 3 * place + 4) for at in range(60)]) for place in range(24)]
        self.assertEqual((way_back(chain, [0, 23]), below(chain, [3])), (list(range(24)), list(range(4, 24))))
        self.assertEqual(ring(chain, [[0, 12], [23]]), list(range(12)))
        self.assertEqual(lots_order(chain, [[at, at + 1] for at in range(0, 24, 2)]), list(range(0, 24, 2)))
        self.assertEqual(len(split_order(chain, [0, 1, 23])), 21 + 60 * (2 + 2 + 2))
        self.assertEqual(sandwiched([chain[0]] * 24, [2, 9]), (0, 2, 3, 9))

    def test_shelves_of_24_runs(self):
        marks = [(36 * at + 5, 7 * at, 300 + 9 * at) for at in range(40)]
        for kind in ("list", "set", "ends"):
            shelf = Shelf(kind, run_stack(kind)[::-1])
            self.assertIsNone(shelf.order_fault(throughout=True))
            shelves = [poured(shelf, list(range(24)), marks), poured(shelf, [4, 5, 6, 7], marks),
                       split_poured(shelf, list(range(3, 20)), marks), poured_lots(shelf, [[0, 1, 2], [8, 9], [22, 23]], marks)]
            self.assertEqual([len(one) for one in shelves[:2] + shelves[3:]], [1, 21, 20])
            for other in shelves:
                self.assertEqual(other.reads(), shelf.reads())
                for number, a, b in marks[::6]:
                    self.assertEqual(other.reads(number).within(a, b), shelf.reads(number).within(a, b))

    def test_told_lots_of_24_runs(self):
        marks = [(36 * at + 5, 7 * at, 300 + 9 * at) for at in range(40)]
        for kind in ("list", "tails"):
            shelf = Shelf(kind, run_stack(kind)[::-1])
            reaches = shelf.reaches()
            self.assertEqual(turned_pair(reaches, [0, 23], [*range(22, 0, -1), None])[:2], (0, 1))
            neighbours = list(range(5, 12))
            least = poured(shelf, neighbours, marks).run_at(5)
            self.assertIsNone(parted_outcome(shelf, neighbours, least, marks))
            self.assertIsNotNone(parted_outcome(shelf, neighbours, Run(kind, least.begin, least.end, least.reach(), []), marks))
            self.assertEqual(group_poured(shelf, [23], range(23)[::-1]).reads(), shelf.reads())
            key, effects = group_fault(shelf, [0, 12, 23], list(range(1, 12)))
            other = refilled(shelf, [0, 12, 23], key, effects)
            self.assertNotEqual(other.read(key), group_poured(other, [0, 12, 23], list(range(1, 12))).read(key))
            self.assertEqual(group_outcome(shelf, list(range(24)), []).end, 1440)
            self.assertIsNotNone(swapped_parting(shelf.run_at(0), shelf.run_at(1), marks, key_set([])))
            self.assertEqual(pair_shelf(kind, reaches, 0, 23, 300).read(300), (1,))


class DevicesTest(unittest.TestCase):
    def long_row(self):
        """Returns a right row of 120 steps with 20 files."""
        steps = []
        for at in range(12):
            steps += [("note", at + 1), ("firm", "log"), ("tell", at + 1), ("lay", at), ("firm", at), ("list", at + 1, (at,)),
                      ("firm", "sheet")]
            steps += [("clear", at - 1)] if at else []
        steps += [("lay", at) for at in range(12, 20)] + [("firm", at) for at in range(12, 20)]
        steps += [("list", 12, (*range(12, 20), 11)), ("firm", "sheet"), ("trim", 9)]
        return steps + [("firm", "log")] * (120 - len(steps))

    def test_120_steps_with_20_files(self):
        steps = self.long_row()
        self.assertEqual((len(steps), is_right(steps), breaking(steps), faults(steps)), (120, True, None, []))
        device = Device(steps)
        trims, ends, sheets, files = device.left_parts()
        self.assertEqual((trims, ends, len(sheets), len(files), numbers_up(steps)), ([0, 9], [12], 1, 20, [12]))
        left = (9, 12, sheets[0], tuple((file, "whole") for file, _ in files))
        self.assertEqual(come_up(left), 12)
        firms = [place for place, step in enumerate(steps) if step[0] == "firm"]
        needed = needed_firms(steps)
        self.assertTrue(may_leave_out(steps, [place for place in firms if place not in needed]))
        self.assertFalse(may_leave_out(steps, needed[5:6]))
        self.assertEqual(len(own_apart(steps)), len(needed))
        bare = [step for step in steps if step[0] != "firm"]
        self.assertEqual((len(fewest_firms(bare)), len(apart_windows(bare))), (len(needed), len(needed)))
        self.assertLessEqual(len(needed), len(device_windows(steps)))
        self.assertEqual(breaking(bare)[0], 1)

    def test_a_log_of_20000_characters(self):
        batches = [[(at * 40 + number, TOP - at, at % 3 == 0, long_word(at)[:number]) for at in range(5)] for number in range(45)]
        text = log_text(999999000, batches)
        self.assertGreater(len(text), 15000)
        told = read_log(text)
        self.assertEqual(told, [(999999000 + at, tuple(batch)) for at, batch in enumerate(batches)])
        wide = [[(at, TOP, False, long_word(at)) for at in range(40)]]
        self.assertEqual(read_log(log_text(1, wide)), [(1, tuple(wide[0]))])

    def test_replays_of_60_batches_of_40_strokes(self):
        batches = [[(at, 700 + 3 * at + number, at % 13 == number % 13, (at, number % 5)) for at in range(40)] for number in range(60)]
        for kind in KINDS:
            self.assertEqual(replay_key(kind, batches, 20, 40), None)
            last = batches + [[(5, 9, False, (1,))]]
            self.assertEqual(replay_key(kind, last, 60, 61), 5 if kind in ("list", "bag") else None)

    def test_kept_parts_of_400_states(self):
        steps = [("write", ((0, 1, True, (letter,)),)) for letter in range(19)]
        menu = Menu("set", steps + [("sync",), ("read", 0), ("crash", 0), ("crash", 1)], most=1)
        table = menu.table()
        stores = [state[0][0] for state in menu.states()]
        names = {store: at for at, store in enumerate(sorted(set(stores)))}
        kept = [names[store] for store in stores]
        self.assertEqual((len(menu), kept_fault(menu, table, kept)), (400, None))
        self.assertEqual(kept_map(menu, table, kept), list(enumerate(sorted(names))))


class CostsTest(unittest.TestCase):
    def test_24_spills_and_heights_of_25(self):
        marks = [(36 * at + 5, 7 * at, 300 + 9 * at) for at in range(40)]
        under = key_set([(40 * at, 40 * at + 9) for at in range(30)])
        spills = run_stack("heads")
        sizes = spill_sizes(spills, marks=marks, beneath=under)
        for i, j in ((0, 24), (3, 9), (22, 24), (17, 18)):
            stretches = [(a, b) for a, b, _ in under] + [(a, b) for run in spills[:i] for a, b, _ in run.reach()]
            least = least_run(spills[i:j], marks, key_set(stretches))
            self.assertEqual(sizes[i][j - i - 1], whole_counts(least)[0])
        table = PriceTable(sizes, 25)
        self.assertEqual((table.least, len(table.closed_rows())), (0, 25 * 25 * 26 // 2))
        plan = PriceTable(sizes, 3).cheapest()
        runs, counts = played(plan, spills, marks=marks, beneath=under)
        self.assertEqual((plan.height, sum(counts), len(runs)), (3, PriceTable(sizes, 3).least, len(plan.standing(23))))
        self.assertLess(sum(map(sum, added_sizes(spills, marks=marks, beneath=under))), sum(map(sum, sizes)))

    def test_400_spills_and_400_writings(self):
        for height in (1, 2, 5, 24):
            writings = fewest_writings(400, height)
            plan = spread(height, writings, spills=400)
            self.assertEqual((len(plan), plan.height, max(plan.writings())), (400, height, writings))
            self.assertGreaterEqual(plan.price(unlike_sizes(400)), unlike_price(400, height))
        self.assertEqual((most_spills(1, 400), len(spread(1, 400)), fewest_writings(400, 1)), (400, 400, 400))
        self.assertEqual(spread(24, 400, spills=400).height, 24)
        self.assertEqual(Plan([[]] * 400).height, 400)


class DesksTest(unittest.TestCase):
    def strokes(self, number):
        """Returns a batch of 40 strokes."""
        return [(at * 20 + number % 7, at * 20 + 90, at % 11 == number % 11, long_word(number)[:at + 20]) for at in range(40)]

    def test_120_deeds_of_a_desk(self):
        for kind in ("list", "set"):
            desk, book = Desk(kind), Book(kind)
            for number in range(40):
                for one in (desk, book):
                    one.write(self.strokes(number))
                    one.hold(number, number, TOP - number)
                    if number % 5 == 4:
                        one.sync()
                if number % 10 == 4:
                    desk.spill()
                if number % 10 == 9:
                    desk.pour(list(range(len(desk.shelf()))))
            self.assertEqual((len(desk.names()), desk.spilled, desk.noted), (40, 35, 40))
            for number in range(8):
                for one in (desk, book):
                    one.write(self.strokes(number + 40))
            self.assertEqual((desk.loose, desk.least_store()), (8, book.least_store()))
            self.assertEqual(desk.answer(("write", ())), ("refused", "loose"))
            self.assertEqual([desk.read(key) for key in range(0, 900, 30)], [book.read(key) for key in range(0, 900, 30)])
            self.assertEqual(scan(desk, 100, 700, name=20), scan(book, 100, 700, name=20))
            self.assertEqual((len(listing(desk)), is_right(desk.steps())), (1 + len(desk.shelf()) + 40, True))
            self.assertEqual(tried(desk, [("sync",), ("spill",), ("split", [0, 1]), ("crash", 0)]), [("done",)] * 4)
            text = desk.as_text()
            desk.crash_text(text[:text.rfind(" ; ")])
            book.crash(7)
            self.assertEqual(desk.least_store(), book.least_store())

    def test_24_runs_of_a_desk(self):
        desk = Desk("list")
        for number in range(24):
            desk.write(self.strokes(number)[number:number + 9])
            desk.sync()
            desk.spill()
        said = desk.store()
        desk.pour_split([3, 4, 5, 6])
        desk.pour(list(range(len(desk.shelf()))))
        self.assertEqual((desk.store(), len(desk.shelf())), (said, 1))
        self.assertEqual(desk.whole_count(), sum(b - a for a, b, _ in said))


if __name__ == "__main__":
    unittest.main()
