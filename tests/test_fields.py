"""Points 17, 18 and 19: fields."""

import unittest

from leastshelf.errors import BadField, BadKey, BadStretch
from leastshelf.fields import Field
from samples import ODD_VALUES, TOP, Raising, random_pieces, sample_keys, seeded
from test_stretches import BAD_STRETCHES

# rows of things that one field may have, the neutral one first
MIXTURES = (
    ((), (1,), (2,), (0, 999999999)),
    ((False, ()), (True, ()), (False, (1,)), (True, (1,))),
    (False, True),
    (0, 1, 2, -5),
    ((0, 0), (0, 1), (1, 0)),
    ((), ((1, True, ()),), ((1, True, ()), (2, False, (3,)))),
)


def thing_at(neutral, pieces, key):
    """Returns the thing that a row of pieces gives to a key."""
    for a, b, thing in pieces:
        if a <= key < b:
            return thing
    return neutral


def samples(seed, many=40):
    """Yields neutral things and rows of pieces of all mixtures."""
    rng = seeded(seed)
    for things in MIXTURES:
        for _ in range(many):
            yield things[0], random_pieces(rng, things)


class FieldTest(Raising, unittest.TestCase):
    def one_form(self, field):
        """The pieces of the field are in one form."""
        pieces = field.pieces()
        for a, b, thing in pieces:
            self.assertTrue(0 <= a < b <= TOP)
            self.assertNotEqual(thing, field.neutral)
        for (_, b, thing), (c, _, other) in zip(pieces, pieces[1:]):
            self.assertTrue(b < c or (b == c and thing != other))

    def test_point_17_and_18_one_form_with_the_same_things(self):
        for neutral, pieces in samples(17):
            for row in (pieces, tuple(pieces)):
                field = Field(neutral, row)
                self.one_form(field)
                self.assertEqual(field.neutral, neutral)
                for key in sample_keys(pieces):
                    self.assertEqual(field.at(key), thing_at(neutral, pieces, key))
                    self.assertIs(key in field, thing_at(neutral, pieces, key) != neutral)

    def test_point_17_joins_and_leaves_out(self):
        field = Field((), [(0, 1, ()), (1, 2, (5,)), (2, 4, (5,)), (4, 5, (6,)), (5, 6, ()), (6, 7, (6,)), (8, 9, (6,))])
        self.assertEqual(field.pieces(), [(1, 4, (5,)), (4, 5, (6,)), (6, 7, (6,)), (8, 9, (6,))])
        self.assertEqual(Field(0, [(0, 1, 0), (999999, TOP, 0)]).pieces(), [])
        self.assertEqual(Field(7).pieces(), [])
        self.assertEqual(Field(False, [(0, 500, True), (500, TOP, True)]).pieces(), [(0, TOP, True)])

    def test_properties(self):
        for neutral, pieces in samples(18, 10):
            field = Field(neutral, pieces)
            self.assertEqual(field.size, sum(b - a for a, b, thing in pieces if thing != neutral))
            self.assertEqual(len(field), len(field.pieces()))
            self.assertEqual(bool(field), field.pieces() != [])
            self.assertEqual(list(field), field.pieces())
            self.assertEqual([piece for piece in field], field.pieces())
        self.assertEqual(Field(False, [(0, TOP, True)]).size, TOP)
        self.assertEqual((Field(()).size, len(Field(())), bool(Field(()))), (0, 0, False))

    def test_at_the_edges(self):
        field = Field((), [(0, 1, (1,)), (999999, TOP, (2,))])
        self.assertEqual([field.at(key) for key in (0, 1, 999998, 999999)], [(1,), (), (), (2,)])
        self.assertEqual([key in field for key in (0, 1, 999998, 999999)], [True, False, False, True])
        self.assertEqual(Field(()).at(0), ())

    def test_at_with_many_pieces(self):
        pieces = [(5 * at, 5 * at + 3, (at,)) for at in range(400)]
        field = Field((), pieces)
        for key in range(2005):
            self.assertEqual(field.at(key), (key // 5,) if key < 2000 and key % 5 < 3 else ())

    def test_bad_keys(self):
        field = Field((), [(0, TOP, (1,))])
        for thing in ODD_VALUES + (TOP, (0,)):
            self.raised(BadKey, [thing], field.at, thing)
            self.raised(BadKey, [thing], lambda thing=thing: thing in field)

    def test_bad_pieces(self):
        good = (3, 5, (1,))
        for stretch in BAD_STRETCHES:
            if isinstance(stretch, tuple) and len(stretch) == 2:
                self.raised(BadField, [0], Field, (), [(*stretch, (1,))])
                self.raised(BadField, [1], Field, (), [(0, 1, (1,)), (*stretch, ())])
        for thing in ODD_VALUES + ((3, 5), (3, 5, (1,), 0), [3, 5, (1,)], ((3, 5), (1,)), (), 4):
            self.raised(BadField, [0], Field, (), [thing])
            self.raised(BadField, [1], Field, (), (good, thing, thing))

    def test_pieces_that_come_too_early(self):
        self.raised(BadField, [1], Field, (), [(0, 4, (1,)), (3, 5, (2,))])
        self.raised(BadField, [1], Field, (), [(0, 4, (1,)), (3, 5, (1,))])
        self.raised(BadField, [1], Field, (), [(0, 4, ()), (3, 5, ())])
        self.raised(BadField, [1], Field, (), [(4, 6, (1,)), (0, 2, (2,))])
        self.raised(BadField, [2], Field, (), [(0, 4, (1,)), (4, 6, (1,)), (5, 7, (1,)), (0, 1, ())])
        self.raised(BadField, [2], Field, (), [(0, 2, (1,)), (3, 5, ()), (4, 6, (1,))])
        self.raised(BadField, [1], Field, (), [(0, 4, (1,)), (0, 4, (1,))])
        self.assertEqual(len(Field((), [(0, 4, (1,)), (4, 5, (2,))])), 2)

    def test_point_18_equal_fields(self):
        for neutral, pieces in samples(20):
            field = Field(neutral, pieces)
            cut = [part for a, b, thing in pieces for part in ((a, a + 1, thing), (a + 1, b, thing)) if part[0] < part[1]]
            again = Field(neutral, cut)
            self.assertTrue(field == again)
            self.assertFalse(field != again)
            other = field.painted(2, 3, neutral)
            self.assertEqual(field == other, field.at(2) == neutral)

    def test_point_18_unequal_fields(self):
        field = Field((), [(0, 2, (1,))])
        for other in (Field((), [(0, 2, (2,))]), Field((), [(0, 3, (1,))]), Field((), [(1, 2, (1,))]), Field(()),
                      Field((), [(0, 2, (1,)), (4, 5, (1,))]), Field((5,), [(0, 2, (1,))]), [(0, 2, (1,))], None, 0,
                      "field", object()):
            self.assertIs(field == other, False)
            self.assertIs(field != other, True)
        self.assertIs(Field(()) == Field((1,)), False)
        self.assertIs(Field(0) == Field(1), False)
        self.assertIs(Field(()) == Field(()), True)

    def test_point_19_within(self):
        rng = seeded(19)
        for neutral, pieces in samples(19):
            field = Field(neutral, pieces)
            a = rng.randrange(14)
            b = rng.choice((a + 1, a + 4, TOP))
            told = field.within(a, b)
            self.one_form(told)
            self.assertEqual(told.neutral, neutral)
            for key in sample_keys(pieces, [(a, b)]):
                self.assertEqual(told.at(key), field.at(key) if a <= key < b else neutral)
            self.assertEqual(field, Field(neutral, pieces))

    def test_point_19_painted(self):
        rng = seeded(119)
        for things in MIXTURES:
            for _ in range(60):
                pieces = random_pieces(rng, things)
                field = Field(things[0], pieces)
                a = rng.randrange(14)
                b = rng.choice((a + 1, a + 4, TOP))
                thing = rng.choice(things)
                told = field.painted(a, b, thing)
                self.one_form(told)
                self.assertEqual(told.neutral, things[0])
                for key in sample_keys(pieces, [(a, b)]):
                    self.assertEqual(told.at(key), thing if a <= key < b else field.at(key))
                self.assertEqual(field, Field(things[0], pieces))

    def test_point_19_pieces_painted_in_any_order(self):
        rng = seeded(219)
        for neutral, pieces in samples(219, 10):
            field = Field(neutral, pieces)
            row = field.pieces()
            rng.shuffle(row)
            painted = Field(neutral)
            for a, b, thing in row:
                painted = painted.painted(a, b, thing)
            self.assertTrue(painted == field)

    def test_bad_stretches(self):
        field = Field((), [(0, 4, (1,))])
        for stretch in BAD_STRETCHES:
            if isinstance(stretch, tuple) and len(stretch) == 2:
                self.raised(BadStretch, [0], field.within, *stretch)
                self.raised(BadStretch, [0], field.painted, *stretch, (1,))
        for thing in ODD_VALUES:
            self.raised(BadStretch, [0], field.within, 0, thing)
            self.raised(BadStretch, [0], field.within, thing, 9)
            self.raised(BadStretch, [0], field.painted, thing, thing, (1,))
        self.assertEqual(field.within(0, TOP), field)
        self.assertEqual(field.within(999999, TOP).pieces(), [])

    def test_example(self):
        store = Field((), [(0, 4, (1,)), (4, 6, (1,)), (8, 9, ())]).painted(2, 3, (7,))
        told = [store.pieces(), store.size, 3 in store, store.at(6), len(store.within(1, 3))]
        self.assertEqual(told, [[(0, 2, (1,)), (2, 3, (7,)), (3, 6, (1,))], 6, True, (), 2])

    def test_point_1_lists_are_new_and_arguments_are_copied(self):
        row = [(0, 4, (1,)), (4, 6, (2,))]
        field = Field((), row)
        row[0] = (0, 4, (9,))
        row.append((7, 8, (3,)))
        told = field.pieces()
        told.clear()
        self.assertEqual(field.pieces(), [(0, 4, (1,)), (4, 6, (2,))])
        self.assertEqual((len(field), field.size, field.at(0)), (2, 6, (1,)))


if __name__ == "__main__":
    unittest.main()
