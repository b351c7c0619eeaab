"""Points 80 and 81: ledgers of histories, their runs and their counts."""

import copy
import unittest

from leastshelf.books import Book
from leastshelf.errors import BadKind, BadLimit, BadStep
from leastshelf.fields import Field
from leastshelf.leastruns import entry_count, least_run, letter_count, whole_counts
from leastshelf.ledgers import history_count, history_run, ledger
from leastshelf.overlays import key_set
from leastshelf.runs import Run
from samples import KINDS, TOP, Raising, plain, random_steps, sample_keys, seeded
from stacks import NO_KEYS
from test_deeds import bad_steps
from test_leasts import BAD_LIMITS


def slow_ledger(kind, history, most):
    """Returns the batches, the number of the kept ones and the views of a history, as point 80 says it."""
    book, batches, kept, views = Book(kind, most=most), [], 0, {}
    for step in history:
        if book.answer(step)[0] == "refused":
            continue
        if step[0] == "write":
            batches = batches + [tuple(step[1])]
        elif step[0] == "sync":
            kept = len(batches)
        elif step[0] == "crash":
            batches, views = batches[:kept + step[1]], {}
            kept = len(batches)
        elif step[0] == "hold":
            views[step[1]] = (len(batches), step[2], step[3])
        elif step[0] == "narrow":
            views[step[1]] = (views[step[1]][0], step[2], step[3])
        elif step[0] == "drop":
            del views[step[1]]
    return batches, kept, views


def histories(number, many=20):
    """Yields a kind, a limit and a history."""
    rng = seeded(number)
    for kind in KINDS:
        for _ in range(many):
            yield kind, rng.choice((1, 2, 8)), random_steps(rng, rng.randrange(16), 6)


class LedgerTest(Raising, unittest.TestCase):
    def test_point_80(self):
        for kind, most, history in histories(80, 40):
            batches, kept, views = slow_ledger(kind, history, most)
            marks = [views[name] for name in sorted(views)]
            marks += [(number, 0, TOP) for number in range(kept, len(batches))]
            told = ledger(kind, history, most=most)
            self.assertEqual(told, (batches, marks))
            self.assertIsInstance(told, tuple)
            self.assertTrue(all(isinstance(part, list) for part in told))
            self.assertTrue(all(isinstance(batch, tuple) for batch in told[0]))
            self.assertEqual(ledger(kind, tuple(history), most=most), told)

    def test_histories_without_a_write(self):
        for kind in KINDS:
            for history in ([], (), [("sync",)], [("crash", 0)], [("read", 3), ("crash", 5)], [("drop", 3), ("ask", 3, 1)]):
                self.assertEqual(ledger(kind, history), ([], []))
                self.assertIsNone(history_run(kind, history))
                self.assertEqual(history_count(kind, history), 0)
            held = [("hold", 3, 0, 9), ("sync",), ("hold", 1, 2, 4)]
            self.assertEqual(ledger(kind, held), ([], [(0, 2, 4), (0, 0, 9)]))
            self.assertEqual((history_run(kind, held), history_count(kind, held)), (None, 0))
            self.assertEqual(ledger(kind, held + [("crash", 0)]), ([], []))

    def test_crashes_to_each_number(self):
        writes = [("write", ((at, at + 1, True, (at,)),)) for at in range(4)]
        history = [writes[0], ("sync",), *writes[1:], ("hold", 5, 0, 9)]
        batches = [step[1] for step in writes]
        self.assertEqual(ledger("list", history), (batches, [(4, 0, 9), (1, 0, TOP), (2, 0, TOP), (3, 0, TOP)]))
        for number in range(4):
            self.assertEqual(ledger("list", history + [("crash", number)]), (batches[:1 + number], []))
            again = history + [("crash", number), writes[0]]
            self.assertEqual(ledger("list", again), (batches[:1 + number] + batches[:1], [(1 + number, 0, TOP)]))
        self.assertEqual(ledger("list", history + [("crash", 4)]), ledger("list", history))

    def test_words_of_batches_stay_as_they_are(self):
        history = [("write", [(0, 2, False, (2, 1, 2))]), ("write", [])]
        for kind in KINDS:
            self.assertEqual(ledger(kind, history)[0], [((0, 2, False, (2, 1, 2)),), ()])

    def test_the_limit_refuses_writes(self):
        writes = [("write", ()) for _ in range(12)]
        self.assertEqual(len(ledger("set", writes)[0]), 8)
        for most in range(1, 9):
            self.assertEqual(ledger("set", writes, most=most), ([()] * most, [(at, 0, TOP) for at in range(most)]))
        puts = [("write", ((0, 1, True, (at,)),)) for at in range(12)]
        self.assertEqual((history_run("set", puts).end, history_count("set", puts)), (8, 8))
        for most in range(1, 9):
            told = (history_run("set", puts, most=most).end, history_count("set", puts, most=most))
            self.assertEqual(told, (most, most))

    def test_questions_and_refused_steps_change_nothing(self):
        for kind, most, history in histories(800, 8):
            book = Book(kind, most=most)
            done = []
            for step in history:
                answer = book.answer(step)
                if answer == ("done",):
                    done.append(step)
            self.assertEqual(ledger(kind, history, most=most), ledger(kind, done, most=most))

    def test_example(self):
        history = [("write", [(0, 3, True, (1,))]), ("hold", 7, 1, 5), ("sync",), ("write", [(0, 2, False, (2,))]),
                   ("narrow", 7, 1, 2)]
        self.assertEqual([ledger("list", history)[1], history_count("list", history)], [[(1, 1, 2), (1, 0, 1000000)], 5])

    def test_errors_in_their_order(self):
        for call in (ledger, history_run, history_count):
            self.bad_kinds(BadKind, call, [None], most=0)
            for most in BAD_LIMITS:
                self.raised(BadLimit, [most], call, "list", [None], most=most)
            for thing in bad_steps():
                for place, history in ((0, [thing]), (2, [("sync",), ("drop", 3), thing, None]), (1, (("crash", 9), thing))):
                    self.raised(BadStep, [place], call, "list", history, most=2)
            self.assertRaises(TypeError, call, "list", [], 3)

    def test_point_1_arguments_and_results(self):
        batch = [(0, 2, True, (1,))]
        history = [("write", batch), ("hold", 3, 0, 9)]
        said = copy.deepcopy(history)
        told = ledger("list", history)
        self.assertEqual(history, said)
        batch.clear()
        self.assertEqual(told, ([((0, 2, True, (1,)),)], [(1, 0, 9), (0, 0, TOP)]))
        told[0].clear()
        told[1].clear()
        self.assertEqual(ledger("list", said), ([((0, 2, True, (1,)),)], [(1, 0, 9), (0, 0, TOP)]))


class HistoryTest(unittest.TestCase):
    def test_point_81_runs_make_the_stores(self):
        for kind, most, history in histories(81):
            batches, marks = ledger(kind, history, most=most)
            if not batches:
                self.assertIsNone(history_run(kind, history, most=most))
                continue
            run = history_run(kind, history, most=most)
            self.assertEqual(run, Run.of_batches(kind, 0, batches))
            least = least_run([run], marks, NO_KEYS)
            self.makes_the_stores(kind, most, history, run)
            self.makes_the_stores(kind, most, history, least)
            for key in sample_keys(run.pieces(), least.pieces()):
                self.assertLessEqual(entry_count(least, key), entry_count(run, key))
                self.assertLessEqual(letter_count(least, key), letter_count(run, key))

    def makes_the_stores(self, kind, most, history, run):
        """The run makes the stores and views that a book has behind the history."""
        batches, kept, views = slow_ledger(kind, history, most)
        book = Book(kind, most=most)
        for step in history:
            book.answer(step)
        stores, held = book.least_store()
        empty = Field(())
        self.assertEqual(len(stores), len(batches) - kept + 1)
        for number, pieces in enumerate(stores):
            self.assertEqual(run.applied(empty, kept + number).pieces(), list(pieces))
        for name, a, b, pieces in held:
            self.assertEqual(views[name][1:], (a, b))
            self.assertEqual(run.applied(empty, views[name][0]).within(a, b).pieces(), list(pieces))

    def test_point_81_counts(self):
        for kind, most, history in histories(810, 15):
            told = history_count(kind, history, most=most)
            batches, marks = ledger(kind, history, most=most)
            said = whole_counts(least_run([Run.of_batches(kind, 0, batches)], marks, key_set([])))[0] if batches else 0
            self.assertEqual(told, said)

    def test_point_81_how_counts_grow(self):
        for kind, most, history in histories(811, 8):
            book = Book(kind, most=most)
            before = 0
            for place, step in enumerate(history):
                answer = book.answer(step)
                now = history_count(kind, history[:place + 1], most=most)
                if answer[0] != "done" or step[0] == "hold":
                    self.assertEqual(now, before)
                elif step[0] != "write":
                    self.assertLessEqual(now, before)
                before = now

    def test_counts_at_the_edges(self):
        for kind in KINDS:
            word = plain(kind, (1,))
            stone = [("write", ((0, TOP, True, ()),))]
            self.assertEqual(history_count(kind, stone), 0)
            put = [("write", ((0, TOP, True, word),))]
            self.assertEqual((history_count(kind, put), history_count(kind, put + stone)), (TOP, 2 * TOP))
            self.assertEqual(history_count(kind, put + stone + [("sync",)]), 0)
            held = put + [("hold", 3, 5, 9)] + stone + [("sync",)]
            self.assertEqual(history_count(kind, held), 8)
            self.assertEqual(history_count(kind, held + [("narrow", 3, 5, 6)]), 2)
            self.assertEqual(history_count(kind, held + [("drop", 3)]), 0)
            self.assertEqual(history_count(kind, put + stone + [("crash", 1)]), TOP)


if __name__ == "__main__":
    unittest.main()
