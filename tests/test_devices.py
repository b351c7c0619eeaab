"""Points 108 to 110: devices, their steps, and what crashes leave of them."""

import itertools
import unittest

from leastshelf.devices import Device, come_up
from leastshelf.errors import BadSteps
from crashes import (files_of, lasting_at, left_devices, next_steps, noted_at, random_device_steps, sheets_of, slow_up,
                     states_of, told_at)
from samples import ODD_VALUES, Raising, seeded

START = [("note", 1), ("note", 2), ("tell", 1), ("lay", 4), ("lay", 0), ("list", 1, (4,)), ("note", 3), ("tell", 2), ("trim", 1),
         ("clear", 4)]

# these fit behind START, and are all that do but for lists
GOOD = [("note", 4), ("tell", 3), ("lay", 1), ("lay", 5), ("lay", 10 ** 30), ("list", 1, ()), ("list", 1, (0,)), ("list", 2, ()),
        ("list", 2, (0,)), ("trim", 2), ("trim", 3), ("clear", 0), ("firm", "log"), ("firm", "sheet"), ("firm", 0), ("firm", 4)]

BAD = ODD_VALUES + (
    (), ("note",), ("note", 1), ("note", 3), ("note", 5), ("note", 4, 4), ["note", 4], ("Note", 4), ("note", "4"), ("note", 4.0),
    ("note", True), ("note", (4,)), ("note", None), ("tell", 0), ("tell", 1), ("tell", 2), ("tell", 4), ("tell", True),
    ("tell", "3"), ("tell", 3.0), ("tell",), ("tell", 3, 3), ("lay", 0), ("lay", 4), ("lay", -1), ("lay", True), ("lay", "log"),
    ("lay", 1.0), ("lay", (1,)), ("lay",), ("lay", 1, 2), ("list", 0, ()), ("list", 3, ()), ("list", -1, ()), ("list", True, ()),
    ("list", 1.0, ()), ("list", "1", ()), ("list", 1), ("list", 1, [0]), ("list", 1, 0), ("list", 1, None), ("list", 1, (4,)),
    ("list", 1, (0, 0)), ("list", 1, (False,)), ("list", 1, (0.0,)), ("list", 1, (9,)), ("list", 1, (0, 4)), ("list", 1, ([0],)),
    ("list", 1, ("log",)), ("list", 1, (), ()), ("list", 1, (None,)), ("list", (), 1), ("trim", 0), ("trim", 1), ("trim", 4),
    ("trim", True), ("trim", "2"), ("trim", 2.0), ("trim",), ("trim", 2, 2), ("clear", 4), ("clear", 9), ("clear", False),
    ("clear", "log"), ("clear", 0.0), ("clear", [0]), ("clear",), ("clear", 0, 0), ("firm", 9), ("firm", False), ("firm", "Log"),
    ("firm", "file"), ("firm", ""), ("firm", None), ("firm", ["log"]), ("firm", ("log",)), ("firm", 0.0), ("firm", -1), ("firm",),
    ("firm", "log", "sheet"), ("firm", b"log"), (None, 4), (1, 4), (("note",), 4), (b"note", 4), ("crash", 0), ("write", ()),
    ("", 4), ("firm log",), "note", "log",
)


class DeviceTest(Raising, unittest.TestCase):
    def test_a_device_without_steps(self):
        for device in (Device(), Device([]), Device(())):
            self.assertEqual((device.noted, device.told, device.lasting, device.steps(), len(device)), (0, 0, 0, [], 0))
            self.assertEqual(device.left_parts(), ([0], [0], [(0, ())], []))
        self.assertEqual(come_up((0, 0, (0, ()), ())), 0)

    def test_point_108_steps_that_fit(self):
        for step in GOOD:
            device = Device(START)
            self.assertIsNone(device.take(step))
            self.assertEqual((device.steps(), len(device)), (START + [step], 11))
            self.assertEqual(Device(tuple(START) + (step,)).steps(), START + [step])
        fits = [step for step in next_steps(START, 6)]
        self.assertEqual(sorted(map(str, fits)), sorted(str(step) for step in GOOD + [("lay", 2), ("lay", 3)] if step != ("lay", 10 ** 30)))

    def test_point_108_steps_that_do_not_fit(self):
        device = Device(START)
        for step in BAD:
            self.raised(BadSteps, [10], device.take, step)
            self.assertEqual(device.steps(), START)
            self.raised(BadSteps, [10], Device, START + [step])
            self.raised(BadSteps, [10], Device, tuple(START) + (step, None))
        for step in (("note", 2), ("tell", 1), ("trim", 1), ("clear", 0), ("firm", 0), ("list", 1, ()), ("list", 0, (0,))):
            self.raised(BadSteps, [0], Device, [step])
            self.raised(BadSteps, [0], Device().take, step)
        for thing in ODD_VALUES + (3, "ab", {("note", 1): 1}):
            self.raised(BadSteps, [0], Device, thing)

    def test_point_108_every_step_against_the_slow_list(self):
        rng = seeded(108)
        pool = [(word, number) for word in ("note", "tell", "lay", "trim", "clear", "firm") for number in range(-1, 5)]
        pool += [("firm", "log"), ("firm", "sheet")]
        pool += [("list", number, row) for number in range(-1, 4) for many in range(3)
                 for row in itertools.product(range(3), repeat=many)]
        for _ in range(40):
            steps = random_device_steps(rng, rng.randrange(14))
            fits = next_steps(steps)
            for step in rng.sample(pool, 40):
                if step in fits:
                    self.assertEqual(len(Device(steps + [step])), len(steps) + 1)
                elif step not in (("lay", 3), ("lay", 4)):
                    self.raised(BadSteps, [len(steps)], Device, steps + [step])

    def test_a_step_after_one_that_did_not_fit(self):
        device = Device([("note", 1)])
        self.raised(BadSteps, [1], device.take, ("tell", 2))
        device.take(("note", 2))
        device.take(("tell", 2))
        self.assertEqual((device.told, len(device)), (2, 3))

    def test_point_109_numbers(self):
        rng = seeded(109)
        for _ in range(60):
            steps = random_device_steps(rng, rng.randrange(20))
            device = Device()
            for moment in range(len(steps) + 1):
                row = steps[:moment]
                numbers = (noted_at(row), told_at(row), lasting_at(row))
                self.assertEqual((device.noted, device.told, device.lasting), numbers)
                other = Device(row)
                self.assertEqual((other.noted, other.told, other.lasting, len(other)), (*numbers, moment))
                if moment < len(steps):
                    device.take(steps[moment])
            self.assertEqual(device.steps(), steps)

    def test_point_109_left_parts(self):
        rng = seeded(1090)
        for _ in range(150):
            steps = random_device_steps(rng, rng.randrange(24))
            told = Device(steps).left_parts()
            self.assertIsInstance(told, tuple)
            self.assertTrue(all(isinstance(part, list) for part in told))
            trims, ends, sheets, files = told
            self.assertEqual(trims, [0] + files_of(steps, "trim"))
            self.assertEqual(ends, list(range(lasting_at(steps), noted_at(steps) + 1)))
            said = sheets_of(steps)
            self.assertEqual(sheets, [sheet for at, sheet in enumerate(said) if sheet not in said[:at]])
            self.assertEqual(files, [(file, tuple(states_of(steps, file))) for file in sorted(files_of(steps, "lay"))])
            left = {(trim, end, sheet, tuple(zip([file for file, _ in files], row))) for trim in trims for end in ends
                    for sheet in sheets for row in itertools.product(*[states for _, states in files])}
            self.assertEqual(left, set(left_devices(steps)))

    def test_sheets_that_are_equal(self):
        steps = [("note", 1), ("tell", 1), ("lay", 3), ("lay", 1), ("list", 1, (3, 1)), ("list", 1, (1, 3)), ("list", 1, (3, 1))]
        self.assertEqual(Device(steps).left_parts()[2], [(0, ()), (1, (3, 1)), (1, (1, 3))])
        self.assertEqual(Device(steps[:6] + [("firm", "sheet"), steps[6]]).left_parts()[2], [(1, (1, 3)), (1, (3, 1))])
        self.assertEqual(Device(steps + [("firm", "sheet")]).left_parts()[2], [(1, (3, 1))])
        self.assertEqual(Device([("list", 0, ()), ("list", 0, ())]).left_parts()[2], [(0, ())])

    def test_files_that_were_cleared(self):
        steps = [("lay", 2), ("lay", 0), ("clear", 2), ("lay", 1), ("firm", 1)]
        said = [(0, ("whole", "broken")), (1, ("whole",)), (2, ("whole", "broken", "gone"))]
        self.assertEqual(Device(steps).left_parts()[3], said)
        self.assertEqual(Device(steps + [("firm", 2)]).left_parts()[3][2], (2, ("whole", "gone")))
        self.assertEqual(Device(steps + [("clear", 1)]).left_parts()[3][1], (1, ("whole", "gone")))

    def test_firms_of_the_log_behind_no_note(self):
        steps = [("firm", "log"), ("note", 1), ("note", 2), ("firm", "log"), ("note", 3)]
        self.assertEqual([Device(steps[:moment]).lasting for moment in range(6)], [0, 0, 0, 0, 2, 2])
        self.assertEqual(Device(steps).left_parts()[1], [2, 3])

    def test_point_1_results_are_new(self):
        steps = list(START)
        device = Device(steps)
        steps.append(("lay", 9))
        said = (device.steps(), tuple(list(part) for part in device.left_parts()))
        device.steps().clear()
        for part in device.left_parts():
            part.clear()
        self.assertEqual((device.steps(), device.left_parts(), len(device)), (*said, 10))
        other = Device(START)
        other.take(("lay", 9))
        self.assertEqual((device.steps(), START), (said[0], START))


class ComeUpTest(unittest.TestCase):
    def test_point_110(self):
        rng = seeded(110)
        found = {True: 0, False: 0}
        for _ in range(150):
            for left in left_devices(random_device_steps(rng, rng.randrange(24), 0.3)):
                told = come_up(left)
                self.assertEqual(told, slow_up(left))
                found[told is None] += 1
        self.assertGreater(min(found.values()), 500)

    def test_any_tuple_of_the_form(self):
        files = ((0, "whole"), (3, "broken"), (7, "gone"))
        self.assertEqual(come_up((0, 5, (3, (0,)), files)), 5)
        self.assertEqual(come_up((3, 2, (3, (0,)), files)), 3)
        self.assertEqual(come_up((9, 9, (9, ()), ())), 9)
        self.assertIsNone(come_up((4, 9, (3, ()), files)))
        for listed in ((3,), (7,), (0, 3), (7, 0), (5,), (0, 5)):
            self.assertIsNone(come_up((0, 9, (9, listed), files)))


if __name__ == "__main__":
    unittest.main()
