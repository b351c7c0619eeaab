"""Point 85: the most changes at a key, and runs that have them."""

import unittest

from leastshelf.chains import chain_run, most_entries
from leastshelf.errors import BadKey, BadKind, BadLimit
from leastshelf.leastruns import entry_count, least_run
from leastshelf.overlays import key_set
from leastshelf.runs import Run
from samples import KINDS, ODD_VALUES, TOP, Raising
from stacks import NO_KEYS, entry_rows, one_run, slow_changes, slow_ground, slow_told
from test_rows import BAD_KEYS

ONE_KEY = key_set([(0, 1)])
NO_CUTS = tuple(thing for thing in ODD_VALUES if thing != 10 ** 30) + (0, "1", (1,))
NO_LETTERS = tuple(thing for thing in ODD_VALUES if thing != 10 ** 30) + (-3, "1", (1,))


def most_parts(kind, cuts, letters):
    """Returns the most changes if no entry clears, as point 85 says it."""
    if letters == 0:
        return 0
    return {"list": cuts, "bag": cuts, "set": min(cuts, letters), "heads": min(cuts, letters), "first": 1, "last": 0,
            "tails": cuts if letters >= 2 else 1, "ends": cuts if letters >= 2 else 1}[kind]


def marks_at(cuts, key):
    """Returns marks with all the numbers below the last cut at a key."""
    return [(number, key, key + 1) for number in range(1, cuts)]


class MostEntriesTest(Raising, unittest.TestCase):
    def test_point_85(self):
        for kind in KINDS:
            for cuts in (1, 2, 3, 7, 40):
                for letters in (0, 1, 2, 3, 6, 60):
                    for beneath in (True, False):
                        said = most_parts(kind, cuts, letters)
                        self.assertEqual(most_entries(kind, cuts, letters, puts=False, beneath=beneath), said)
                        said = cuts if letters else int(beneath)
                        self.assertEqual(most_entries(kind, cuts, letters, puts=True, beneath=beneath), said)
                        self.assertEqual(most_entries(kind, cuts, letters, beneath=beneath), said)
                    self.assertEqual(most_entries(kind, cuts, letters), cuts if letters else 1)

    def test_point_85_no_run_has_more(self):
        for kind in KINDS:
            for cuts, letters in ((1, 0), (1, 1), (1, 2), (2, 0), (2, 1), (2, 2), (3, 0), (3, 1), (3, 2)):
                rows = entry_rows(kind, cuts, range(letters), 1)
                for under, beneath in ((ONE_KEY, True), (NO_KEYS, False)):
                    most = {True: 0, False: 0}
                    for row in rows:
                        told = slow_told([one_run(kind, 0, cuts, row)], marks_at(cuts, 0), under, 0)
                        many = slow_changes(told, slow_ground(under, 0))
                        most[True] = max(most[True], many)
                        if not any(clear for _, clear, _ in row):
                            most[False] = max(most[False], many)
                    for puts in (True, False):
                        self.assertEqual(most_entries(kind, cuts, letters, puts=puts, beneath=beneath), most[puts])

    def test_errors_in_their_order(self):
        self.bad_kinds(BadKind, most_entries, 0, -1)
        for thing in NO_CUTS:
            for puts in (True, False):
                self.raised(BadLimit, [thing], most_entries, "list", thing, None, puts=puts)
        for thing in NO_LETTERS:
            for puts in (True, False):
                self.raised(BadLimit, [thing], most_entries, "list", 3, thing, puts=puts)
        self.assertRaises(TypeError, most_entries, "list", 3, 3, True)


class ChainRunTest(Raising, unittest.TestCase):
    def test_point_85_chains(self):
        for kind in KINDS:
            for cuts in (1, 2, 3, 5, 40):
                for letters in (0, 1, 2, 3, 60):
                    for puts in (True, False):
                        for key in (0, 7, TOP - 1):
                            run = chain_run(kind, cuts, letters, key, puts=puts)
                            self.is_chain(run, kind, cuts, letters, key, puts)
                    self.assertEqual(entry_count(chain_run(kind, cuts, letters, 7), 7), cuts if letters else 1)

    def is_chain(self, run, kind, cuts, letters, key, puts):
        """The run is one that the interface describes."""
        self.assertIsInstance(run, Run)
        self.assertEqual((run.kind, run.begin, run.end), (kind, 0, cuts))
        self.assertEqual(run.reach(), key_set([(key, key + 1)]))
        row = run.entries_at(key)
        self.assertEqual(len(row), most_entries(kind, cuts, letters, puts=puts, beneath=True))
        self.assertEqual(run.pieces(), [(key, key + 1, row)] if row else [])
        self.assertTrue(all(0 <= letter < letters for _, _, word in row for letter in word))
        if not puts:
            self.assertFalse(any(clear for _, clear, _ in row))
        self.assertEqual(least_run([run], marks_at(cuts, key), run.reach()), run)

    def test_errors_in_their_order(self):
        self.bad_kinds(BadKind, chain_run, 0, -1, None)
        for thing in NO_CUTS:
            self.raised(BadLimit, [thing], chain_run, "list", thing, None, None)
        for thing in NO_LETTERS:
            self.raised(BadLimit, [thing], chain_run, "list", 3, thing, None)
        for key in BAD_KEYS:
            for letters, puts in ((0, True), (2, True), (0, False), (2, False)):
                self.raised(BadKey, [key], chain_run, "list", 3, letters, key, puts=puts)


if __name__ == "__main__":
    unittest.main()
