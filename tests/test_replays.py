"""Points 115 and 116: books and left devices, and playing batches once more."""

import unittest

from leastshelf.batches import after, batch_effects, on_store
from leastshelf.books import Book
from leastshelf.errors import BadKind
from leastshelf.fields import Field
from leastshelf.kinds import IDEMPOTENT
from leastshelf.replays import replay_key
from leastshelf.windows import numbers_up
from crashes import busy_steps, lasting_at, noted_at
from samples import KINDS, TOP, Raising, makes, plain, random_batch, sample_keys, seeded, states

IDLE = (False, ())


def effects_at(kind, batches, key):
    """Returns the effect of some batches at a key, one then the next, as clear and a word of letters."""
    clear, word = False, ()
    for batch in batches:
        for a, b, clears, letters in batch:
            if a <= key < b:
                clear, word = (True, letters) if clears else (clear, word + letters)
    return clear, plain(kind, word)


def played(kind, batches, state, key):
    """Returns the state of a key behind some batches."""
    for batch in batches:
        for a, b, clear, word in batch:
            if a <= key < b:
                state = makes(kind, (clear, plain(kind, word)), state)
    return state


def samples(number, many=40):
    """Yields a kind, batches, begin and middle."""
    rng = seeded(number)
    for kind in KINDS:
        for at in range(many):
            batches = [random_batch(rng, 8, 3) for _ in range(rng.randrange(1, 6))]
            begin = 0 if at % 3 == 0 else rng.randrange(len(batches) + 1)
            yield kind, batches, begin, rng.randrange(begin, len(batches) + 1)


class ReplayTest(Raising, unittest.TestCase):
    def test_point_116_condition(self):
        met = {"fault": 0, "kept": 0}
        for kind, batches, begin, middle in samples(116):
            wrong = []
            for key in sample_keys(*batches):
                again, behind = effects_at(kind, batches[begin:middle], key), effects_at(kind, batches[middle:], key)
                if not (behind[0] or again[0] or again[1] == () or kind in IDEMPOTENT):
                    wrong.append(key)
            told = replay_key(kind, batches, begin, middle)
            self.assertEqual(told, wrong[0] if wrong else None)
            self.assertEqual(replay_key(kind, tuple(map(list, batches)), begin, middle), told)
            met["kept" if told is None else "fault"] += 1
        self.assertGreater(min(met.values()), 10)

    def test_point_116_what_is_made(self):
        for kind, batches, begin, middle in samples(1160):
            wrong = []
            for key in sample_keys(*batches):
                for state in states(kind):
                    before = played(kind, batches[begin:middle], state, key)
                    if played(kind, batches[begin:], before, key) != played(kind, batches[begin:], state, key):
                        wrong.append((key, state))
            told = replay_key(kind, batches, begin, middle)
            self.assertEqual(told, wrong[0][0] if wrong else None)
            self.assertTrue(told is None or (told, ()) in wrong)

    def test_point_116_fields(self):
        for kind, batches, begin, middle in samples(1161, 10):
            fields = [batch_effects(kind, batch) for batch in batches]
            store = Field((), [(0, TOP, plain(kind, (1, 2)))])
            rows = []
            for row in (fields[begin:], fields[begin:middle] + fields[begin:]):
                effects = Field(IDLE)
                for field in row:
                    effects = after(kind, effects, field)
                rows.append((on_store(kind, effects, store), on_store(kind, effects, Field(()))))
            if replay_key(kind, batches, begin, middle) is None:
                self.assertEqual(rows[0], rows[1])
            else:
                self.assertNotEqual(rows[0], rows[1])

    def test_keys_that_neither_clear_nor_are_idle(self):
        part, put, stone = (3, 9, False, (1,)), (3, 9, True, (1,)), (3, 9, True, ())
        for kind in KINDS:
            key = 3 if kind in ("list", "bag") else None
            self.assertEqual(replay_key(kind, [[part]], 0, 1), key)
            self.assertEqual(replay_key(kind, [[part]], 0, 0), None)
            self.assertEqual(replay_key(kind, [[part]], 1, 1), None)
            self.assertEqual(replay_key(kind, [[part], [part]], 1, 2), key)
            self.assertEqual(replay_key(kind, [[part], [part]], 0, 1), key)
            for last in (put, stone):
                self.assertEqual(replay_key(kind, [[part], [last]], 0, 1), None)
                self.assertEqual(replay_key(kind, [[last], [part]], 0, 2), None)
                self.assertEqual(replay_key(kind, [[last], [part]], 1, 2), key)
                self.assertEqual(replay_key(kind, [[part], [(4, 9, *last[2:])]], 0, 1), key)
                self.assertEqual(replay_key(kind, [[part], [(3, 5, *last[2:])]], 0, 1), key and 5)
            self.assertEqual(replay_key(kind, [[(0, 9, False, ())]], 0, 1), None)
            self.assertEqual(replay_key(kind, [[(TOP - 1, TOP, False, (4,))], []], 0, 2), key and TOP - 1)

    def test_no_batches(self):
        for kind in KINDS:
            self.assertEqual([replay_key(kind, batches, 0, 0) for batches in ([], (), [[]])], [None] * 3)
            self.assertEqual(replay_key(kind, [[], ()], 0, 2), None)

    def test_bad_kinds(self):
        self.bad_kinds(BadKind, replay_key, [], 0, 0)
        self.bad_kinds(BadKind, replay_key, [[None]], 0, 1)

    def test_arguments_stay(self):
        batches = [[(3, 9, False, (1,))], []]
        replay_key("list", batches, 0, 2)
        self.assertEqual(batches, [[(3, 9, False, (1,))], []])


class BooksTest(unittest.TestCase):
    def test_point_115(self):
        rng = seeded(115)
        done = 0
        for at in range(80):
            kind = KINDS[at % 8]
            steps = busy_steps(rng, 12, 1)
            batches = {number: random_batch(rng, 6, 2) for number in range(1, noted_at(steps) + 1)}
            book = Book(kind)
            for moment in range(len(steps) + 1):
                row = steps[:moment]
                if moment:
                    step = steps[moment - 1]
                    told = book.answer(("write", batches[step[1]])) if step[0] == "note" else ("done",)
                    told = book.answer(("sync",)) if step == ("firm", "log") else told
                    if told != ("done",):
                        break
                lasting = lasting_at(row)
                self.assertEqual(book.loose, noted_at(row) - lasting)
                ups = numbers_up(row)
                self.assertEqual(ups, list(range(lasting, lasting + book.loose + 1)))
                for number in ups:
                    twin, other = book.twin(), Book(kind)
                    twin.crash(number - lasting)
                    for batch in range(1, number + 1):
                        other.write(batches[batch])
                        other.sync()
                    self.assertEqual(twin.store(), other.store())
                    done += 1
        self.assertGreater(done, 1000)


if __name__ == "__main__":
    unittest.main()
