"""Points 110 to 112: the windows of a device, its faults, and which rows of steps are right."""

import unittest

from leastshelf.devices import Device, come_up
from leastshelf.errors import BadSteps
from leastshelf.windows import breaking, device_windows, faults, is_right, numbers_up
from crashes import (busy_steps, fails, first_breaking, lasting_at, left_devices, noted_at, plain_faults, random_device_steps,
                     slow_up, told_at)
from samples import ODD_VALUES, Raising, seeded
from test_devices import BAD, START

CALLS = (device_windows, faults, is_right, breaking, numbers_up)
WRITE = [("note", 1), ("firm", "log"), ("tell", 1)]
RIGHT = WRITE + [("lay", 0), ("firm", 0), ("list", 1, (0,)), ("firm", "sheet"), ("trim", 1), ("lay", 1), ("firm", 1),
                 ("list", 1, (1,)), ("firm", "sheet"), ("clear", 0)]


def rows(number, many=150, longest=14):
    """Yields rows of steps in form, of which some are right."""
    rng = seeded(number)
    for at in range(many):
        if at % 4 == 0:
            yield random_device_steps(rng, rng.randrange(longest))
        else:
            yield busy_steps(rng, rng.randrange(longest), (0, 1, 0.9, 0.3)[at % 4])


def without(steps, place):
    """Returns the row without the step at a place."""
    return steps[:place] + steps[place + 1:]


class WindowsTest(unittest.TestCase):
    def test_point_111(self):
        found = {"log": 0, "sheet": 0, "file": 0, "fault": 0}
        for steps in rows(111, 300, 30):
            every = plain_faults(steps)
            told = device_windows(steps)
            self.assertIsInstance(told, list)
            self.assertEqual(told, [window for window in every if window[1] is not None])
            self.assertEqual(faults(tuple(steps)), [window[2] for window in every if window[1] is None])
            for part, start, _ in every:
                found["fault" if start is None else part if isinstance(part, str) else "file"] += 1
        self.assertGreater(min(found.values()), 20, found)

    def test_windows_of_each_step(self):
        self.assertEqual(device_windows(RIGHT), [("log", 0, 2), (0, 3, 5), ("sheet", 5, 7), (1, 8, 10), ("sheet", 10, 12)])
        self.assertEqual((faults(RIGHT), is_right(RIGHT), breaking(RIGHT)), ([], True, None))
        several = WRITE + [("lay", 5), ("lay", 2), ("lay", 9), ("list", 1, (9, 2)), ("list", 1, (5, 2, 9))]
        self.assertEqual(device_windows(several), [("log", 0, 2), (2, 4, 6), (9, 5, 6), (5, 3, 7)])
        notes = [("note", 1), ("note", 2), ("note", 3), ("tell", 2), ("tell", 3)]
        self.assertEqual(device_windows(notes), [("log", 1, 3), ("log", 2, 4)])

    def test_a_file_that_no_list_has_is_cleared_freely(self):
        steps = WRITE + [("lay", 0), ("list", 1, ()), ("clear", 0)]
        self.assertEqual((device_windows(steps), faults(steps), is_right(steps)), ([("log", 0, 2)], [], True))

    def test_cleared_files_and_the_lists_behind_them(self):
        steps = WRITE + [("lay", 0), ("list", 1, (0,)), ("list", 1, ()), ("list", 1, (0,)), ("list", 1, ()), ("list", 1, ())]
        self.assertEqual(device_windows(steps + [("clear", 0)])[-1], ("sheet", 7, 9))
        self.assertEqual((faults(steps[:7] + [("clear", 0)]), faults(steps[:6] + [("clear", 0)])), ([7], []))
        self.assertEqual(device_windows(steps[:6] + [("clear", 0)])[-1], ("sheet", 5, 6))

    def test_trims_and_the_first_list_with_enough(self):
        notes = [("note", 1), ("note", 2), ("note", 3), ("tell", 3)]
        steps = notes + [("list", 1, ()), ("list", 2, ()), ("list", 2, ()), ("list", 3, ())]
        for number, start in ((1, 4), (2, 5), (3, 7)):
            self.assertEqual(device_windows(steps + [("trim", number)])[-1], ("sheet", start, 8))
        self.assertEqual((faults(steps[:7] + [("trim", 3)]), faults(steps[:4] + [("trim", 1)]), faults(steps)), ([7], [4], []))
        self.assertEqual(faults([("note", 1), ("trim", 1), ("lay", 0), ("list", 0, (0,)), ("clear", 0)]), [1, 4])

    def test_firms_serve_strictly_between(self):
        self.assertTrue(is_right([("note", 1), ("firm", "log"), ("tell", 1)]))
        for steps in ([("firm", "log"), ("note", 1), ("tell", 1)], [("note", 1), ("tell", 1), ("firm", "log")],
                      [("note", 1), ("firm", "sheet"), ("tell", 1)], [("note", 1), ("lay", 0), ("firm", 0), ("tell", 1)]):
            self.assertEqual((is_right(steps), breaking(steps)[0]), (False, steps.index(("tell", 1))))

    def test_an_empty_row(self):
        for steps in ([], ()):
            self.assertEqual([call(steps) for call in CALLS], [[], [], True, None, [0]])


class RightTest(unittest.TestCase):
    def test_point_112_against_all_crashes(self):
        found = {True: 0, "tell": 0, "list": 0, "clear": 0, "trim": 0}
        for steps in rows(112, 700, 24):
            moment = first_breaking(steps)
            self.assertEqual(is_right(steps), moment is None)
            told = breaking(steps)
            if moment is None:
                self.assertIsNone(told)
                found[True] += 1
                continue
            flaw, left = told
            self.assertEqual(flaw + 1, moment)
            found[steps[flaw][0]] += 1
            self.assertIn(left, left_devices(steps[:moment]))
            self.assertTrue(fails(steps[:moment], left))
            self.assertEqual(told, (flaw, self.slow_left(steps[:moment])))
        self.assertGreater(min(found.values()), 15, found)

    def slow_left(self, steps):
        """Returns the left device of point 112 for steps that end with the flaw."""
        word, number = steps[-1][:2]
        sheets = [(0, ())] + [step[1:] for step in steps if step[0] == "list"]
        trim, end, sheet = 0, noted_at(steps), sheets[-1]
        states = {step[1]: "whole" for step in steps if step[0] == "lay"}
        if word == "tell":
            end = lasting_at(steps)
        if word == "list":
            unserved = [part for part, start, at in plain_faults(steps)
                        if at == len(steps) - 1 and ("firm", part) not in steps[start:]]
            states[min(unserved)] = "broken"
        if word == "clear":
            sheet = [one for one in sheets if number in one[1]][-1]
            states[number] = "gone"
        if word == "trim":
            trim, sheet = number, [one for one in sheets if one[0] < number][-1]
        return (trim, end, sheet, tuple(sorted(states.items())))

    def test_point_112_each_kind_of_flaw(self):
        self.assertEqual(breaking([("note", 1), ("note", 2), ("firm", "log"), ("note", 3), ("tell", 3)]), (4, (0, 2, (0, ()), ())))
        steps = WRITE + [("lay", 7), ("lay", 2), ("lay", 5), ("firm", 5), ("list", 1, (7, 2, 5))]
        self.assertEqual(breaking(steps), (7, (0, 1, (1, (7, 2, 5)), ((2, "broken"), (5, "whole"), (7, "whole")))))
        self.assertEqual(breaking(steps[:7] + [("firm", 2)] + steps[7:])[1][3], ((2, "whole"), (5, "whole"), (7, "broken")))
        steps = WRITE + [("lay", 0), ("firm", 0), ("list", 1, (0,)), ("firm", "sheet"), ("list", 1, ()), ("note", 2), ("clear", 0)]
        self.assertEqual(breaking(steps), (9, (0, 2, (1, (0,)), ((0, "gone"),))))
        steps = WRITE + [("lay", 0), ("firm", 0), ("list", 1, (0,)), ("note", 2), ("trim", 1)]
        self.assertEqual(breaking(steps), (7, (1, 2, (0, ()), ((0, "whole"),))))
        self.assertEqual(breaking([("note", 1), ("trim", 1)]), (1, (1, 1, (0, ()), ())))
        self.assertEqual(breaking(WRITE + [("lay", 0), ("firm", 0), ("list", 1, (0,)), ("clear", 0)]),
                         (6, (0, 1, (1, (0,)), ((0, "gone"),))))

    def test_each_firm_of_a_right_row_counts(self):
        flaws = {1: 2, 4: 5, 6: 7, 9: 10, 11: 12}
        for place, flaw in flaws.items():
            steps = without(RIGHT, place)
            self.assertEqual((is_right(steps), breaking(steps)[0]), (False, flaw - 1))

    def test_the_least_flaw(self):
        steps = [("note", 1), ("trim", 1), ("tell", 1)]
        self.assertEqual(breaking(steps)[0], 1)
        self.assertEqual(breaking([("note", 1), ("tell", 1), ("trim", 1)])[0], 1)

    def test_point_112_numbers(self):
        right = 0
        for steps in rows(113, 250, 11):
            for moment in range(len(steps) + 1):
                row = steps[:moment]
                ups = {slow_up(left) for left in left_devices(row)} - {None}
                told = numbers_up(row)
                self.assertIsInstance(told, list)
                self.assertEqual(told, sorted(ups))
                if is_right(row):
                    self.assertEqual(told, list(range(lasting_at(row), noted_at(row) + 1)))
                    self.assertLessEqual(told_at(row), lasting_at(row))
                    right += 1
        self.assertGreater(right, 300)

    def test_numbers_of_rows_that_are_not_right(self):
        steps = [("note", 1), ("note", 2), ("tell", 2), ("list", 1, ())]
        self.assertEqual(numbers_up(steps), [0, 1, 2])
        self.assertEqual(numbers_up(steps + [("firm", "sheet")]), [1, 2])
        self.assertEqual(numbers_up(steps + [("list", 2, ()), ("firm", "sheet")]), [2])

    def test_the_left_device_is_one_that_a_crash_leaves(self):
        for steps in rows(114, 120):
            told = breaking(steps)
            if told is not None:
                flaw, left = told
                trims, ends, sheets, files = Device(steps[:flaw + 1]).left_parts()
                self.assertTrue(left[0] in trims and left[1] in ends and left[2] in sheets)
                self.assertTrue(all(state in dict(files)[file] for file, state in left[3]))
                up = come_up(left)
                self.assertTrue(up is None or up < told_at(steps[:flaw + 1]))


class ErrorsTest(Raising, unittest.TestCase):
    def test_bad_steps(self):
        for call in CALLS:
            for step in BAD:
                self.raised(BadSteps, [10], call, START + [step])
                self.raised(BadSteps, [10], call, (*START, step, None))
            for thing in ODD_VALUES + (3, "ab", {("note", 1): 1}):
                self.raised(BadSteps, [0], call, thing)
            self.raised(BadSteps, [1], call, [("note", 1), ("tell", 2), ("trim", 9)])

    def test_point_1_results_are_new(self):
        steps = list(RIGHT)
        for call in (device_windows, faults, numbers_up):
            said = list(call(steps))
            call(steps).append(None)
            self.assertEqual((call(steps), steps), (said, RIGHT))


if __name__ == "__main__":
    unittest.main()
