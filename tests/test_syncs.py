"""Points 113 and 114: the fewest firms that make a row of steps right, or keep it right."""

import itertools
import math
import unittest

from leastshelf.errors import BadSteps, NoPlace, NotRight
from leastshelf.syncs import apart_windows, fewest_firms, may_leave_out, needed_firms, own_apart
from leastshelf.windows import breaking, device_windows, faults, is_right
from crashes import busy_steps
from samples import ODD_VALUES, Raising, seeded
from test_devices import BAD, START
from test_windows import RIGHT, rows

ADDING = (fewest_firms, apart_windows)
LEAVING = (needed_firms, own_apart)


def with_firms(steps, firms):
    """Returns the row with firms put into slots; those of one slot in the order of the row."""
    out = []
    for slot in range(len(steps) + 1):
        out += [("firm", part) for at, part in firms if at == slot]
        out += steps[slot:slot + 1]
    return out


def bare_rows(number, many, longest):
    """Yields rows of steps in form without faults; many of their firms are left out."""
    rng = seeded(number)
    for _ in range(many):
        steps = busy_steps(rng, rng.randrange(2, longest), 1)
        share = rng.choice((0.2, 0.7, 1))
        steps = [step for step in steps if step[0] != "firm" or rng.random() > share]
        if not faults(steps):
            yield steps


def unserved(steps):
    """Returns the device windows that are not served."""
    return [(part, start, end) for part, start, end in device_windows(steps) if ("firm", part) not in steps[start + 1:end]]


def share_slots(one, other):
    """Returns True if two windows of one part share a slot."""
    return one[0] == other[0] and max(one[1], other[1]) < min(one[2], other[2])


def firms_of(steps):
    """Returns the places of the firms."""
    return [place for place, step in enumerate(steps) if step[0] == "firm"]


class FewestTest(Raising, unittest.TestCase):
    def test_point_113_against_all_choices(self):
        found, searched = {}, 0
        for steps in bare_rows(113, 300, 20):
            told = fewest_firms(steps)
            self.assertIsInstance(told, list)
            # no slot has the log or the sheet beside another part
            self.assertEqual(told, sorted(told, key=lambda one: (one[0], str(one[1]))))
            self.assertTrue(is_right(with_firms(steps, told)))
            parts = sorted({window[0] for window in device_windows(steps)}, key=str)
            slots = [(slot, part) for slot in range(len(steps) + 1) for part in parts
                     if isinstance(part, str) or ("lay", part) in steps[:slot]]
            if told and math.comb(len(slots), len(told) - 1) <= 2000:
                for row in itertools.combinations(slots, len(told) - 1):
                    self.assertFalse(is_right(with_firms(steps, row)))
                searched += len(told) > 1
            found[len(told)] = found.get(len(told), 0) + 1
        self.assertTrue({0, 1, 2, 3} <= set(found), found)
        self.assertGreater(searched, 20)

    def test_point_113_windows_that_share_no_slot(self):
        for steps in [*bare_rows(1130, 150, 20), *rows(1131, 150, 24)]:
            if not faults(steps):
                told, apart = fewest_firms(steps), apart_windows(steps)
                self.assertEqual(told, [(end, part) for part, _, end in apart])
                self.assertEqual(apart, [window for window in device_windows(steps) if window in apart])
                self.assertTrue(all(window in unserved(steps) for window in apart))
                self.assertFalse(any(share_slots(one, other) for one, other in itertools.combinations(apart, 2)))
                most = 0
                for part in {window[0] for window in unserved(steps)}:
                    own = [window for window in unserved(steps) if window[0] == part]
                    most += max(many for many in range(len(own) + 1) for row in itertools.combinations(own, many)
                                if not any(share_slots(one, other) for one, other in itertools.combinations(row, 2)))
                self.assertEqual(len(told), most)

    def test_right_rows_take_none_and_stay_right(self):
        rng = seeded(1131)
        for steps in rows(1132, 150, 24):
            if is_right(steps):
                self.assertEqual((fewest_firms(steps), apart_windows(steps)), ([], []))
                laid = [0] + [place + 1 for place, step in enumerate(steps) if step[0] == "lay"]
                for part in ("log", "sheet", *[step[1] for step in steps if step[0] == "lay"]):
                    first = 0 if isinstance(part, str) else steps.index(("lay", part)) + 1
                    slot = rng.randrange(first, len(steps) + 1)
                    self.assertTrue(is_right(with_firms(steps, [(slot, part)])))
                self.assertLessEqual(len(laid), 4)

    def test_slots_that_windows_share(self):
        notes = [("note", 1), ("note", 2), ("tell", 1), ("tell", 2)]
        self.assertEqual((device_windows(notes), fewest_firms(notes)), ([("log", 0, 2), ("log", 1, 3)], [(2, "log")]))
        self.assertEqual(apart_windows(notes), [("log", 0, 2)])
        apart = [("note", 1), ("tell", 1), ("note", 2), ("tell", 2), ("note", 3), ("note", 4), ("tell", 3), ("tell", 4)]
        self.assertEqual(fewest_firms(apart), [(1, "log"), (3, "log"), (6, "log")])
        # the firm in slot 2 is at the place 2, so it is not behind the note at the place 2
        touch = [("note", 1), ("tell", 1), ("note", 2), ("firm", "log"), ("tell", 2)]
        self.assertEqual(fewest_firms(touch), [(1, "log")])

    def test_several_files_in_one_slot(self):
        steps = RIGHT[:3] + [("lay", 5), ("lay", 2), ("lay", 9), ("firm", 2), ("list", 1, (9, 5, 2))]
        self.assertEqual(fewest_firms(steps), [(7, 5), (7, 9)])
        self.assertEqual(apart_windows(steps), [(5, 3, 7), (9, 5, 7)])

    def test_faults(self):
        for steps in rows(1133, 150, 24):
            if faults(steps):
                for call in ADDING:
                    self.raised(NotRight, [faults(steps)[0]], call, steps)
        two = [("note", 1), ("tell", 1), ("note", 2), ("trim", 1), ("trim", 2)]
        for call in ADDING:
            self.raised(NotRight, [3], call, two)

    def test_example(self):
        steps = [("note", 1), ("tell", 1), ("lay", 0), ("list", 1, (0,)), ("trim", 1)]
        firm = [steps[0], ("firm", "log"), *steps[1:3], ("firm", 0), *steps[3:]]
        self.assertEqual([fewest_firms(steps), breaking(steps), breaking(firm)],
                         [[(1, "log"), (3, 0), (4, "sheet")], (1, (0, 0, (0, ()), ())), (6, (1, 1, (0, ()), ((0, "whole"),)))])


class NeededTest(Raising, unittest.TestCase):
    def test_point_114_which_may_go(self):
        found = {True: 0, False: 0}
        rng = seeded(114)
        for steps in rows(1140, 200, 24):
            if is_right(steps):
                places = firms_of(steps)
                for _ in range(6):
                    drop = rng.sample(places, rng.randrange(len(places) + 1))
                    left = [step for place, step in enumerate(steps) if place not in drop]
                    told = may_leave_out(steps, rng.choice((drop, tuple(drop), drop * 2)))
                    self.assertIs(told, is_right(left))
                    found[told] += 1
        self.assertGreater(min(found.values()), 60)

    def test_point_114_against_all_choices(self):
        found = {"none": 0, "some": 0, "all": 0}
        for steps in rows(1141, 300, 14):
            if not is_right(steps):
                continue
            needed, places = needed_firms(steps), firms_of(steps)
            self.assertIsInstance(needed, list)
            self.assertEqual(needed, sorted(set(needed)))
            self.assertTrue(set(needed) <= set(places))
            self.assertTrue(may_leave_out(steps, [place for place in places if place not in needed]))
            if len(places) <= 8 and needed:
                for row in itertools.combinations(places, len(needed) - 1):
                    self.assertFalse(may_leave_out(steps, [place for place in places if place not in row]))
            if places:
                found["all" if not needed else "none" if needed == places else "some"] += 1
        self.assertGreater(min(found.values()), 5, found)

    def test_point_114_windows(self):
        for steps in rows(1142, 200, 24):
            if is_right(steps):
                needed, apart = needed_firms(steps), own_apart(steps)
                self.assertEqual(len(needed), len(apart))
                self.assertEqual(apart, [window for window in device_windows(steps) if window in apart])
                last = [max(place for place in range(start, end) if steps[place] == ("firm", part)) for part, start, end in apart]
                self.assertEqual(sorted(last), needed)
                for place in firms_of(steps):
                    serves = [window for window in apart if window[1] < place < window[2] and steps[place][1] == window[0]]
                    self.assertLessEqual(len(serves), 1)

    def test_the_last_of_those_that_serve(self):
        steps = [("note", 1), ("firm", "log"), ("note", 2), ("firm", "log"), ("firm", "log"), ("tell", 1), ("firm", "log"), ("tell", 2)]
        self.assertEqual((needed_firms(steps), own_apart(steps)), ([4], [("log", 0, 5)]))
        self.assertEqual([may_leave_out(steps, [place]) for place in (1, 3, 4, 6)], [True] * 4)
        self.assertEqual((may_leave_out(steps, [3, 4, 6]), may_leave_out(steps, [1, 3, 4]), may_leave_out(steps, [1, 6, 3])),
                         (False, False, True))
        self.assertEqual((needed_firms(RIGHT), own_apart(RIGHT)), ([1, 4, 6, 9, 11], device_windows(RIGHT)))
        both = [("note", 1), ("lay", 0), ("firm", 0), ("firm", "log"), ("tell", 1), ("list", 1, (0,))]
        self.assertEqual((needed_firms(both), own_apart(both)), ([2, 3], [("log", 0, 4), (0, 1, 5)]))

    def test_rows_without_firms(self):
        for steps in ([], (), [("note", 1), ("lay", 3), ("list", 0, ()), ("clear", 3)]):
            self.assertEqual([call(steps) for call in ADDING + LEAVING], [[]] * 4)
            self.assertIs(may_leave_out(steps, []), True)

    def test_errors_in_their_order(self):
        for call in ADDING + LEAVING + (lambda steps: may_leave_out(steps, [None]),):
            for step in BAD:
                self.raised(BadSteps, [10], call, [*START, step, None])
            for thing in ODD_VALUES + (3, "ab"):
                self.raised(BadSteps, [0], call, thing)
        for steps, flaw in (([("note", 1), ("tell", 1)], 1), ([("note", 1), ("trim", 1), ("tell", 1)], 1), (START, 2)):
            for call in LEAVING:
                self.raised(NotRight, [flaw], call, steps)
            self.raised(NotRight, [flaw], may_leave_out, steps, [None])
        for place in ODD_VALUES + (0, 2, 3, 12, 13, 99, -12, "1", (1,), [1]):
            self.raised(NoPlace, [place], may_leave_out, RIGHT, [1, 4, place, None])
            self.raised(NoPlace, [place], may_leave_out, RIGHT, (place,))

    def test_point_1_results_are_new(self):
        steps, places = list(RIGHT), [1, 4]
        for call in ADDING + LEAVING:
            said = list(call(steps))
            call(steps).append(None)
            self.assertEqual((call(steps), steps), (said, RIGHT))
        may_leave_out(steps, places)
        self.assertEqual((steps, places), (RIGHT, [1, 4]))


if __name__ == "__main__":
    unittest.main()
