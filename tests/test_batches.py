"""Points 23 to 28: strokes, batches, fields of effects and stores."""

import itertools
import unittest

from leastshelf.batches import (
    after, batch_between, batch_effects, batch_of, check_batch, empty_store, is_stroke, narrowed_batch, narrowed_field,
    on_store, parting_key, touched,
)
from leastshelf.effects import IDLE
from leastshelf.errors import BadBatch, BadKind
from leastshelf.fields import Field
from leastshelf.kinds import under
from samples import (
    BAD_LETTERS, KINDS, ODD_VALUES, TOP, Raising, any_effects, makes, normal_form, plain, plain_words, random_batch,
    random_pieces, sample_keys, seeded,
)
from test_stretches import BAD_STRETCHES

GOOD = (3, 5, True, (1, 0))
BAD_STROKES = ODD_VALUES + (
    [3, 5, True, (1,)], (3, 5, True), (3, 5, True, (1,), 0), (3, 5, 1, (1,)), (3, 5, 0, ()), (3, 5, None, ()),
    (3, 5, False, [1]), (3, 5, False, 1), ((3, 5), False, (1,)), (), (3, 5, (1,), False), (3, 5, True, None),
)


def random_store(rng, kind):
    """Returns a store."""
    return Field((), random_pieces(rng, plain_words(kind, (0, 1, 2), 2)))


def random_effects(rng, kind):
    """Returns a field of effects."""
    some = [normal_form(kind, effect) for effect in any_effects(kind, (0, 1, 2), 2)]
    return Field(IDLE, random_pieces(rng, some))


def written(kind, batch, state, key):
    """Returns what the strokes of a batch make of the state of a key, one by one."""
    for a, b, clear, word in batch:
        if a <= key < b:
            state = makes(kind, (clear, plain(kind, word)), state)
    return state


class StrokesTest(Raising, unittest.TestCase):
    def test_point_23_is_stroke(self):
        for thing in (GOOD, (0, 1, False, ()), (999999, TOP, True, (999999999, 0, 0)), (0, TOP, False, (2, 1, 2))):
            self.assertIs(is_stroke(thing), True)
        for thing in BAD_STROKES:
            self.assertIs(is_stroke(thing), False)
        for stretch in BAD_STRETCHES:
            if isinstance(stretch, tuple) and len(stretch) == 2:
                self.assertIs(is_stroke((*stretch, True, (1,))), False)
        for letter in BAD_LETTERS:
            self.assertIs(is_stroke((0, 1, True, (2, letter))), False)

    def test_point_23_check_batch(self):
        for kind in KINDS:
            row = [GOOD, (0, 9, False, (5, 5))]
            self.assertEqual(check_batch(kind, row), tuple(row))
            self.assertIsInstance(check_batch(kind, row), tuple)
            self.assertEqual(check_batch(kind, tuple(row)), tuple(row))
            self.assertEqual(check_batch(kind, []), ())

    def test_bad_batches(self):
        calls = ((check_batch, "list"), (batch_effects, "bag"), (narrowed_batch, "set"), (touched,))
        for call, *kind in calls:
            for thing in ODD_VALUES + (5, {GOOD: 1}, iter([GOOD])):
                self.raised(BadBatch, [0], call, *kind, thing)
            for thing in BAD_STROKES:
                for row in ([thing], [GOOD, GOOD, thing, thing], (GOOD, thing, GOOD)):
                    place = [at for at, entry in enumerate(row) if entry is thing][0]
                    self.raised(BadBatch, [place], call, *kind, row)

    def test_point_2_kinds_are_looked_at_first(self):
        self.bad_kinds(BadKind, check_batch, None)
        self.bad_kinds(BadKind, batch_effects, [None])
        self.bad_kinds(BadKind, narrowed_batch, None)
        self.bad_kinds(BadKind, after, None, None)
        self.bad_kinds(BadKind, after, Field(IDLE), Field(IDLE))
        self.bad_kinds(BadKind, on_store, Field(IDLE), Field(()))
        self.bad_kinds(BadKind, batch_between, Field(()), Field(()))
        self.bad_kinds(BadKind, parting_key, Field(IDLE), Field(IDLE))
        for call in (on_store, batch_between, parting_key):
            self.bad_kinds(BadKind, call, None, None)
        self.bad_kinds(BadKind, narrowed_field, None)
        self.bad_kinds(BadKind, narrowed_field, Field(()))
        self.bad_kinds(BadKind, narrowed_field, Field(IDLE))

    def test_point_23_touched(self):
        rng = seeded(23)
        for _ in range(60):
            batch = random_batch(rng)
            told = touched(batch)
            self.assertEqual(touched(list(batch)), told)
            self.assertIs(told.neutral, False)
            for key in sample_keys(batch):
                self.assertIs(told.at(key), any(a <= key < b for a, b, _, _ in batch))
        self.assertEqual(touched([(0, 2, False, ()), (2, 3, True, ()), (5, TOP, True, (1,))]).pieces(),
                         [(0, 3, True), (5, TOP, True)])
        self.assertEqual(touched(()).pieces(), [])


class EffectsTest(Raising, unittest.TestCase):
    def test_point_24_field_of_effects(self):
        rng = seeded(24)
        for kind in KINDS:
            for _ in range(40):
                batch = random_batch(rng)
                field = batch_effects(kind, batch)
                self.assertEqual(batch_effects(kind, list(batch)), field)
                self.assertEqual(field.neutral, IDLE)
                for key in sample_keys(batch):
                    effect = field.at(key)
                    self.assertEqual(effect, normal_form(kind, effect))
                    self.assertEqual(effect[1], plain(kind, effect[1]))
                    for state in plain_words(kind, (0, 1, 7), 1):
                        self.assertEqual(makes(kind, effect, state), written(kind, batch, state, key))

    def test_point_24_edges(self):
        for kind in KINDS:
            self.assertEqual(batch_effects(kind, []), Field(IDLE))
            self.assertEqual(batch_effects(kind, [(0, TOP, False, ())]), Field(IDLE))
            self.assertEqual(batch_effects(kind, [(0, TOP, True, ())]).pieces(), [(0, TOP, (True, ()))])
            told = batch_effects(kind, [(0, 2, False, (2, 1, 2)), (2, 4, False, (2, 1, 2))]).pieces()
            self.assertEqual(told, [(0, 4, normal_form(kind, (False, plain(kind, (2, 1, 2)))))])

    def test_point_24_on_store(self):
        rng = seeded(124)
        for kind in KINDS:
            for _ in range(40):
                batch, store = random_batch(rng), random_store(rng, kind)
                told = on_store(kind, batch_effects(kind, batch), store)
                self.assertEqual(told.neutral, ())
                for key in sample_keys(batch, store):
                    self.assertEqual(told.at(key), written(kind, batch, store.at(key), key))

    def test_point_25_after(self):
        rng = seeded(25)
        for kind in KINDS:
            for _ in range(20):
                one, two, three = (random_effects(rng, kind) for _ in range(3))
                store = random_store(rng, kind)
                told = after(kind, one, two)
                self.assertEqual(told.neutral, IDLE)
                self.assertEqual(on_store(kind, told, store), on_store(kind, two, on_store(kind, one, store)))
                self.assertEqual(after(kind, told, three), after(kind, one, after(kind, two, three)))
                self.assertEqual(after(kind, one, Field(IDLE)), one)
                self.assertEqual(after(kind, Field(IDLE), one), one)
                left, right = random_batch(rng), random_batch(rng)
                both = after(kind, batch_effects(kind, left), batch_effects(kind, right))
                self.assertEqual(both, batch_effects(kind, left + right))

    def test_point_25_parting_key(self):
        rng = seeded(125)
        for kind in KINDS:
            for _ in range(40):
                one = random_effects(rng, kind)
                other = rng.choice((one, random_effects(rng, kind)))
                told = parting_key(kind, one, other)
                keys = [key for key in sample_keys(one, other) if one.at(key) != other.at(key)]
                if not keys:
                    self.assertIsNone(told)
                    continue
                left, right = one.at(keys[0]), other.at(keys[0])
                fresh = min(letter for letter in range(6) if letter not in left[1])
                self.assertEqual(told, (keys[0], () if left[1] != right[1] else plain(kind, (fresh,))))
                self.assertIsInstance(told, tuple)
                store = Field((), [(told[0], told[0] + 1, told[1])])
                self.assertNotEqual(on_store(kind, one, store).at(told[0]), on_store(kind, other, store).at(told[0]))
        self.assertIsNone(parting_key("list", Field(IDLE), Field(IDLE)))

    def test_point_26_batch_between(self):
        rng = seeded(26)
        for kind in KINDS:
            for _ in range(40):
                one = random_store(rng, kind)
                other = rng.choice((random_store(rng, kind), one.painted(2, 9, rng.choice(plain_words(kind, (0, 1), 1)))))
                told = batch_between(kind, one, other)
                self.assertIsInstance(told, tuple)
                self.assertEqual(on_store(kind, batch_effects(kind, told), one), other)
                self.assertEqual(check_batch(kind, told), told)
                for key in sample_keys(one, other):
                    self.assertEqual(touched(told).at(key), one.at(key) != other.at(key))
                for (a, b, clear, word), (c, d, again, next_word) in zip(told, told[1:]):
                    self.assertTrue(a < b < c < d or (b == c and word != next_word))
                for a, b, clear, word in told:
                    self.assertIs(clear, True)
                    self.assertEqual(word, other.at(a))

    def test_point_26_cases(self):
        one = Field((), [(0, 2, (1,)), (2, 4, (2,)), (4, 6, (3,))])
        other = Field((), [(0, 4, (5,)), (4, 5, (3,)), (8, 9, (1,))])
        told = ((0, 4, True, (5,)), (5, 6, True, ()), (8, 9, True, (1,)))
        self.assertEqual(batch_between("list", one, other), told)
        self.assertEqual(batch_between("list", one, one), ())
        self.assertEqual(batch_between("list", one, empty_store()), ((0, 6, True, ()),))
        self.assertEqual(batch_between("list", empty_store(), Field((), [(0, TOP, (1,))])), ((0, TOP, True, (1,)),))

    def test_point_27_batch_of(self):
        rng = seeded(27)
        for kind in KINDS:
            for _ in range(30):
                field = random_effects(rng, kind)
                told = batch_of(field)
                self.assertEqual(told, tuple((a, b, clear, word) for a, b, (clear, word) in field.pieces()))
                self.assertIsInstance(told, tuple)
                self.assertEqual(batch_effects(kind, told), field)
        self.assertEqual(batch_of(Field(IDLE)), ())

    def test_empty_store(self):
        self.assertEqual(empty_store(), Field(()))
        self.assertEqual((empty_store().neutral, empty_store().pieces()), ((), []))

    def test_example(self):
        effects = batch_effects("heads", [(0, 10, False, (3, 3)), (4, 6, True, ()), (5, 12, False, (8,))])
        told = [effects.pieces()[1:4], on_store("heads", effects, Field((), [(0, 6, (8, 3))])).pieces()]
        self.assertEqual(told, [
            [(4, 5, (True, ())), (5, 6, (True, (8,))), (6, 10, (False, (3, 8)))],
            [(0, 4, (8, 3)), (5, 6, (8,)), (6, 10, (3, 8)), (10, 12, (8,))],
        ])


class NarrowedTest(Raising, unittest.TestCase):
    def pairs(self):
        """Returns the pairs of kinds of which the first is under the second."""
        return [pair for pair in itertools.product(KINDS, repeat=2) if under(*pair)]

    def test_point_28_fields(self):
        rng = seeded(28)
        for fine, coarse in self.pairs():
            for _ in range(15):
                store, effects = random_store(rng, coarse), random_effects(rng, coarse)
                small, told = narrowed_field(fine, store), narrowed_field(fine, effects)
                self.assertEqual((small.neutral, told.neutral), ((), IDLE))
                for key in sample_keys(store, effects):
                    self.assertEqual(small.at(key), plain(fine, store.at(key)))
                    clear, word = effects.at(key)
                    self.assertEqual(told.at(key), normal_form(fine, (clear, plain(fine, word))))
                made = on_store(coarse, effects, store)
                self.assertEqual(narrowed_field(fine, made), on_store(fine, told, small))
                other = random_effects(rng, coarse)
                self.assertEqual(narrowed_field(fine, after(coarse, effects, other)),
                                 after(fine, told, narrowed_field(fine, other)))

    def test_point_28_one_form(self):
        store = Field((), [(0, 2, (1, 2)), (2, 4, (2, 1)), (4, 5, (1, 1))])
        self.assertEqual(narrowed_field("bag", store).pieces(), [(0, 4, (1, 2)), (4, 5, (1, 1))])
        effects = Field(IDLE, [(0, 2, (False, (1, 2))), (2, 4, (True, (2,)))])
        self.assertEqual(narrowed_field("last", effects).pieces(), [(0, 4, (True, (2,)))])
        self.assertEqual(narrowed_field("first", effects).pieces(), [(0, 2, (False, (1,))), (2, 4, (True, (2,)))])
        self.assertEqual(narrowed_field("set", Field(IDLE)), Field(IDLE))
        self.assertEqual(narrowed_field("set", Field(())), Field(()))

    def test_point_28_batches(self):
        rng = seeded(128)
        for fine, coarse in self.pairs():
            for _ in range(15):
                batch = random_batch(rng)
                told = narrowed_batch(fine, batch)
                self.assertEqual(told, tuple((a, b, clear, plain(fine, word)) for a, b, clear, word in batch))
                self.assertEqual(narrowed_batch(fine, list(batch)), told)
                self.assertIsInstance(told, tuple)
                self.assertEqual(batch_effects(fine, told), narrowed_field(fine, batch_effects(coarse, batch)))
                self.assertEqual(batch_effects(fine, told), batch_effects(fine, batch))

    def test_point_1_arguments_stay(self):
        batch = [(0, 4, False, (2, 1, 2)), (1, 3, True, (1,))]
        again = list(batch)
        for kind in KINDS:
            told = check_batch(kind, batch)
            batch_effects(kind, batch)
            narrowed_batch(kind, batch)
            touched(batch)
            self.assertEqual(batch, again)
            batch.append(GOOD)
            self.assertEqual(told, tuple(again))
            batch.pop()


if __name__ == "__main__":
    unittest.main()
