"""Point 148: trials of desks."""

import unittest

from leastshelf.cursors import Cursor
from leastshelf.desks import Desk
from leastshelf.errors import BadStep, Closed, NoPlace, NotClosed, Refused, Sandwiched, Unknown
from leastshelf.trials import Trial, tried
from desking import do_deed, random_deeds
from samples import KINDS, ODD_VALUES, Raising, seeded
from test_deeds import bad_steps
from test_desks import desk_behind, put, shelf_rows

START = [("write", put(1)), ("hold", 3, 0, 9), ("sync",), ("spill",), ("write", put(2, 2, 6)), ("sync",), ("spill",), ("write", put(3))]
DEEDS = [("write", put(9)), ("drop", 3), ("hold", 4, 0, 2), ("sync",), ("spill",), ("pour", [0, 1]), ("split", [0]), ("crash", 0),
         ("narrow", 3, 1, 2), ("crash", 1)]


class Stop(Exception):
    """An error of no package."""


class TrialTest(Raising, unittest.TestCase):
    def test_point_148_whatever_is_done(self):
        rng = seeded(148)
        for kind in KINDS:
            for _ in range(4):
                desk = Desk(kind, most=3)
                rows = list(random_deeds(rng, kind, 3, 16, 0.1))
                deeds = [deed for deed, _, _ in rows]
                for deed in deeds[:len(deeds) // 2]:
                    do_deed(desk, deed)
                said = shelf_rows(desk)
                with Trial(desk) as held:
                    self.assertIs(held, desk)
                    for deed in deeds[len(deeds) // 2:]:
                        do_deed(desk, deed)
                    behind = shelf_rows(desk)
                self.assertEqual(shelf_rows(desk), said)
                for deed in deeds[len(deeds) // 2:]:
                    do_deed(desk, deed)
                self.assertEqual(shelf_rows(desk), behind)

    def test_each_deed(self):
        for kind in KINDS:
            desk = desk_behind(kind, START)
            said = shelf_rows(desk)
            for deed in DEEDS:
                trial = Trial(desk)
                self.assertIs(trial.entered, False)
                with trial as held:
                    self.assertIs(trial.entered, True)
                    if deed == ("spill",):
                        held.sync()
                    do_deed(held, deed)
                    self.assertNotEqual(shelf_rows(desk), said)
                self.assertEqual(shelf_rows(desk), said)
                self.assertIs(trial.entered, True)

    def test_blocks_that_are_left_by_an_error(self):
        desk = desk_behind("list", START)
        said = shelf_rows(desk)
        for error in (Stop("a"), Unknown(7), KeyError("b"), KeyboardInterrupt()):
            with self.assertRaises(error.__class__) as caught:
                with Trial(desk):
                    desk.crash(0)
                    raise error
            self.assertIs(caught.exception, error)
            self.assertEqual(shelf_rows(desk), said)
        with self.assertRaises(Unknown):
            with Trial(desk):
                desk.drop(3)
                desk.drop(3)
        self.assertEqual(shelf_rows(desk), said)

    def left_early(self, desk):
        """Leaves a block by a return."""
        for number in range(3):
            with Trial(desk):
                desk.write(put(number))
                if number == 0:
                    continue
                return number

    def test_blocks_that_are_left_by_a_return(self):
        desk = desk_behind("list", START)
        said = shelf_rows(desk)
        self.assertEqual((self.left_early(desk), shelf_rows(desk)), (1, said))

    def test_trials_in_one_another(self):
        desk = desk_behind("set", START)
        said = shelf_rows(desk)
        with Trial(desk) as one:
            one.write(put(5))
            middle = shelf_rows(desk)
            with Trial(one) as other:
                other.crash(0)
                other.sync()
                self.assertIsNone(desk.steps())
            self.assertEqual(shelf_rows(desk), middle)
            try:
                with Trial(desk), Trial(desk):
                    desk.drop(3)
                    raise Stop("a")
            except Stop:
                pass
            self.assertEqual(shelf_rows(desk), middle)
        self.assertEqual(shelf_rows(desk), said)

    def test_a_trial_that_is_entered_twice(self):
        desk = desk_behind("set", START)
        trial = Trial(desk)
        with trial:
            desk.write(put(5))
            inner = shelf_rows(desk)
            with self.assertRaises(Closed):
                with trial:
                    self.fail("the block must not be entered")
            self.assertEqual(shelf_rows(desk), inner)
        said = shelf_rows(desk)
        desk.drop(3)
        behind = shelf_rows(desk)
        with self.assertRaises(Closed):
            with trial:
                self.fail("the block must not be entered")
        self.assertEqual((shelf_rows(desk), trial.entered), (behind, True))
        self.assertNotEqual(said, behind)
        self.raised(Closed, None, trial.__enter__)

    def test_a_trial_that_was_made_earlier(self):
        desk = Desk("set")
        trial = Trial(desk)
        desk.write(put(1))
        with trial:
            desk.write(put(2))
        self.assertEqual((desk.noted, desk.read(0)), (1, (1,)))

    def test_other_objects_stay_as_they_are(self):
        desk = desk_behind("list", [("write", put(1, 0, 2) + put(2, 5, 6)), ("hold", 3, 0, 9)])
        cursor = Cursor(desk, 3)
        with Trial(desk):
            self.assertEqual(cursor.forward(), (0, 2, (1,)))
            twin = desk.twin()
        self.assertEqual((desk.view(3)[:2], twin.view(3)[:2]), ((0, 9), (2, 9)))
        with Trial(desk):
            self.assertEqual([cursor.forward() for _ in range(3)], [(0, 2, (1,)), (5, 6, (2,)), None])
            self.assertTrue(cursor.done)
        self.assertEqual((cursor.done, cursor.forward(), desk.names()), (True, None, [3]))


class TriedTest(Raising, unittest.TestCase):
    def test_answers(self):
        rng = seeded(1480)
        for kind in KINDS:
            deeds = [deed for deed, _, _ in random_deeds(rng, kind, 3, 20, 0.1)]
            desk = Desk(kind, most=3)
            twin, said = desk.twin(), shelf_rows(desk)
            answers = []
            for deed in deeds:
                told = do_deed(twin, deed)
                answers.append(("done",) if told is None else told)
            told = tried(desk, deeds)
            self.assertIsInstance(told, list)
            self.assertEqual((told, shelf_rows(desk)), (answers, said))
            self.assertEqual(tried(desk, tuple(deeds)), answers)
        self.assertEqual((tried(Desk("set"), []), tried(Desk("set"), ())), ([], []))

    def test_refused_steps_go_on(self):
        desk = desk_behind("set", START, 1)
        self.assertEqual(tried(desk, [("write", []), ("drop", 7), ("sync",), ("crash", 1), ("read", 0), ("write", [])]),
                         [("refused", "loose"), ("refused", "unknown"), ("done",), ("refused", "fewer"), ("word", (3,)), ("done",)])
        self.assertEqual((desk.loose, desk.read(0)), (1, (3,)))

    def test_the_three_deeds(self):
        desk = desk_behind("set", START)
        steps = [("sync",), ("spill",), ("pour", [0, 1]), ("split", (0, 1)), ("pour", (0,)), ("read", 3)]
        self.assertEqual(tried(desk, steps), [("done",)] * 5 + [("word", (3,))])
        self.assertEqual((desk.spilled, len(desk.shelf())), (2, 2))

    def test_trials_as_steps(self):
        desk = desk_behind("set", START)
        said = shelf_rows(desk)
        inner = [("crash", 0), ("trial", [("write", []), ("read", 0)]), ("read", 0)]
        told = tried(desk, [("trial", inner), ("read", 0), ("trial", ()), ("ask", 3, 0)])
        self.assertEqual(told, [("tried", (("done",), ("tried", (("done",), ("word", (1,)))), ("word", (1,)))), ("word", (3,)),
                                ("tried", ()), ("word", (1,))])
        self.assertEqual(shelf_rows(desk), said)

    def test_bad_steps(self):
        desk = desk_behind("set", START)
        said = shelf_rows(desk)
        bad = [thing for thing in bad_steps() if thing not in (("spill",), ("pour", [0]))]
        bad += [("spill", 1), ("spill", ()), ("pour",), ("split",), ("pour", [0], 1), ("split", [0], 1), ("trial",), ("trial", [], 1),
                ["spill"], ["trial", []], ("Spill",), ("Trial", []), ("pour_split", [0]), (b"spill",)]
        bad += [("trial", thing) for thing in ODD_VALUES + (3, "ab", {0: ("sync",)})]
        for thing in bad:
            self.raised(BadStep, [0], tried, desk, [thing])
            self.raised(BadStep, [2], tried, desk, (("sync",), ("drop", 50), thing, None))
            self.raised(BadStep, [1], tried, desk, [("sync",), ("trial", [("drop", 3), thing]), ("read", 0)])
            self.assertEqual((desk.noted, desk.names(), desk.loose), (3, [3], 1))
        self.raised(BadStep, [0], tried, desk, [("sync",), ("trial", [None]), None])
        self.assertEqual(shelf_rows(desk), said)

    def test_errors_come_when_their_step_does(self):
        desk = desk_behind("set", START)
        said = shelf_rows(desk)
        self.raised(Refused, ["spill"], tried, desk, [("spill",), None])
        self.raised(BadStep, [1], tried, desk, [("sync",), None, ("pour", [9])])
        self.raised(NoPlace, [9], tried, desk, [("sync",), ("pour", [9]), None])
        self.raised(NoPlace, [None], tried, desk, [("split", []), None])
        self.raised(NoPlace, ["x"], tried, desk, [("split", ["x"]), None])
        self.raised(Refused, ["spill"], tried, desk, [("trial", [("sync",), ("spill",), ("spill",)])])
        steps = [("sync",), ("spill",)]
        self.raised(NotClosed, [1], tried, desk, steps + [("pour", [0, 2])])
        self.raised(Sandwiched, [2], tried, desk, steps + [("split", [0, 2])])
        self.assertEqual(shelf_rows(desk), said)

    def test_point_1_arguments_and_results(self):
        desk = desk_behind("set", START)
        row = [("read", 0)]
        steps = [("trial", row), ("pour", [0])]
        tried(desk, steps).clear()
        self.assertEqual((steps, row), ([("trial", [("read", 0)]), ("pour", [0])], [("read", 0)]))
        self.assertEqual(tried(desk, steps), [("tried", (("word", (3,)),)), ("done",)])


if __name__ == "__main__":
    unittest.main()
