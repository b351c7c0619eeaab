"""Points 32, 33 and 42: the steps of a book."""

import itertools
import unittest

from leastshelf.deeds import (
    DEEDS, QUESTIONS, REASONS, is_deed, is_name, narrowed_step, plain_step,
)
from leastshelf.errors import BadKind, BadStep
from samples import KINDS, ODD_VALUES, TOP, Raising, plain
from test_batches import BAD_STROKES
from test_stretches import BAD_STRETCHES

STROKE = (3, 5, True, (2, 1, 2))
STEPS = (
    ("write", ()), ("write", (STROKE, (0, TOP, False, ()))), ("sync",), ("crash", 0), ("crash", 8), ("crash", 10 ** 30),
    ("hold", 0, 0, 1), ("hold", 99, 5, TOP), ("narrow", 0, 999999, TOP), ("narrow", 99, 3, 4), ("drop", 0), ("drop", 99),
    ("read", 0), ("read", 999999), ("ask", 0, 999999), ("ask", 99, 0),
)

BAD_NUMBERS = (-1, True, False, None, 1.0, "1", (1,), [1], 2.5)
BAD_NAMES = BAD_NUMBERS + (100, 10 ** 30)
BAD_KEYS = BAD_NUMBERS + (TOP, 10 ** 30)


def bad_steps():
    """Returns many values that are no steps."""
    out = list(ODD_VALUES) + [(), ("write",), ("sync", 0), ("sync", ()), ("crash",), ("crash", 0, 0), ("drop",),
                              ("drop", 1, 2), ("read",), ("read", 1, 2), ("ask", 1), ("ask", 1, 2, 3), ("hold", 1, 2),
                              ("hold", 1, (2, 3)), ("hold", 1, 2, 3, 4), ("narrow", 1, 2), ("narrow", 1, 2, 3, 4),
                              ("Write", ()), ("spill",), ("pour", [0]), ("", 1), (("read",), 1), ("read", "1"),
                              ["sync"], ["read", 1], "sync", ("write", STROKE), ("write", (), ()), (None, 1), (1, 2),
                              ("wri", ()), ("deed", 1), (["read"], 1), (b"sync",), ("hold",), ("narrow",), ("ask",),
                              ("hold", 1), ("narrow", 1)]
    out.extend(("write", thing) for thing in ODD_VALUES + (5, {}, "ab", {STROKE: 1}))
    out.extend(("write", row) for thing in BAD_STROKES for row in ([thing], (STROKE, thing)))
    out.extend(("crash", thing) for thing in BAD_NUMBERS)
    for name in BAD_NAMES:
        out.extend([("hold", name, 1, 2), ("narrow", name, 1, 2), ("drop", name), ("ask", name, 1)])
    for key in BAD_KEYS:
        out.extend([("read", key), ("ask", 1, key)])
    for stretch in BAD_STRETCHES:
        if isinstance(stretch, tuple):
            out.extend([("hold", 1, *stretch), ("narrow", 1, *stretch)])
    return out


class StepsTest(Raising, unittest.TestCase):
    def test_words(self):
        self.assertEqual(DEEDS, ("write", "sync", "crash", "hold", "narrow", "drop"))
        self.assertEqual(QUESTIONS, ("read", "ask"))
        self.assertEqual(REASONS, ("loose", "fewer", "taken", "unknown", "outside"))

    def test_point_31_names(self):
        self.assertTrue(all(is_name(name) is True for name in range(100)))
        for thing in ODD_VALUES + BAD_NAMES:
            self.assertIs(is_name(thing), False)

    def test_is_deed(self):
        for step in STEPS:
            self.assertIs(is_deed(step), step[0] not in ("read", "ask"))

    def test_point_32_plain_steps(self):
        for kind, step in itertools.product(KINDS, STEPS):
            self.assertEqual(plain_step(kind, step), step)
            self.assertEqual(plain_step(kind, step, 5), step)
            self.assertEqual(plain_step(kind, step, place=5), step)
        told = plain_step("set", ("write", [STROKE, STROKE]))
        self.assertEqual(told, ("write", (STROKE, STROKE)))
        self.assertIsInstance(told[1], tuple)
        self.assertEqual(plain_step("set", ("write", [])), ("write", ()))

    def test_point_33_bad_steps(self):
        for thing in bad_steps():
            for call in (plain_step, narrowed_step):
                self.raised(BadStep, [0], call, "heads", thing)
            self.raised(BadStep, [7], plain_step, "list", thing, 7)
            self.raised(BadStep, [8], plain_step, "list", thing, place=8)

    def test_point_2_kinds_are_looked_at_first(self):
        for step in (("sync",), None, ("write", None)):
            self.bad_kinds(BadKind, plain_step, step)
            self.bad_kinds(BadKind, plain_step, step, 3)
            self.bad_kinds(BadKind, narrowed_step, step)

    def test_parameters_ahead_of_the_slash(self):
        self.assertRaises(TypeError, lambda: plain_step(kind="list", step=("sync",)))

    def test_point_42_narrowed_steps(self):
        for kind, step in itertools.product(KINDS, STEPS):
            told = narrowed_step(kind, step)
            if step[0] == "write":
                strokes = tuple((a, b, clear, plain(kind, word)) for a, b, clear, word in step[1])
                self.assertEqual(told, ("write", strokes))
                self.assertEqual(narrowed_step(kind, ("write", list(step[1]))), told)
                self.assertIsInstance(told[1], tuple)
            else:
                self.assertEqual(told, step)

    def test_point_1_arguments_stay(self):
        batch = [STROKE]
        told = plain_step("bag", ("write", batch))
        narrowed = narrowed_step("bag", ("write", batch))
        self.assertEqual(batch, [STROKE])
        batch.append(STROKE)
        self.assertEqual((told, narrowed), (("write", (STROKE,)), ("write", ((3, 5, True, (1, 2, 2)),))))


if __name__ == "__main__":
    unittest.main()
