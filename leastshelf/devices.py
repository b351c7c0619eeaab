"""Devices: a log, a sheet and files, the steps that change them, and what crashes leave of them."""

from leastshelf.errors import BadSteps
from leastshelf.kinds import is_row, is_whole

FIRST_SHEET = (0, ())


class Device:
    """A device behind a row of steps."""

    def __init__(self, steps=()):
        self._steps = []
        self._noted = 0
        self._told = 0
        self._lasting = 0
        self._trims = [0]
        self._sheets = [FIRST_SHEET]
        self._lasting_sheet = 0
        # for each file that was laid, the states in which a crash can leave it
        self._files = {}
        if not is_row(steps):
            raise BadSteps(0)
        for step in steps:
            self.take(step)

    def take(self, step):
        """Takes one more step; raises BadSteps with the number of steps so far if it does not fit."""
        if not self._fits(step):
            raise BadSteps(len(self._steps))
        self._steps.append(step)
        self._do(step)

    @property
    def noted(self):
        """The number of the last note."""
        return self._noted

    @property
    def told(self):
        """The number of the last tell."""
        return self._told

    @property
    def lasting(self):
        """The number of the last note ahead of the last firm of the log."""
        return self._lasting

    def steps(self):
        """Returns the list of the steps so far."""
        return list(self._steps)

    def __len__(self):
        return len(self._steps)

    def sheets(self):
        """Returns the list of all sheets so far, the oldest first."""
        return list(self._sheets)

    def left_parts(self):
        """Returns the trims, the ends, the sheets and the states of files that left devices may have."""
        sheets = {sheet: True for sheet in self._sheets[self._lasting_sheet:]}
        files = [(file, self._files[file]) for file in sorted(self._files)]
        return (list(self._trims), list(range(self._lasting, self._noted + 1)), list(sheets), files)

    def _fits(self, step):
        """Returns True if any value is a step that fits those so far."""
        if not isinstance(step, tuple) or len(step) == 0 or not isinstance(step[0], str):
            return False
        if step[0] == "list":
            return len(step) == 3 and self._fits_sheet(step[1], step[2])
        if len(step) != 2:
            return False
        if step[0] == "firm" and isinstance(step[1], str):
            return step[1] in ("log", "sheet")
        return is_whole(step[1]) and self._fits_number(step[0], step[1])

    def _fits_number(self, word, number):
        """Returns True if a step of the word and the integer fits."""
        if word == "note":
            return number == self._noted + 1
        if word == "tell":
            return self._told < number <= self._noted
        if word == "trim":
            return self._trims[-1] < number <= self._noted
        if word == "lay":
            return number >= 0 and number not in self._files
        if word == "clear":
            return self._stands(number)
        return word == "firm" and number in self._files

    def _fits_sheet(self, number, files):
        """Returns True if a list of any two values fits."""
        if not is_whole(number) or not self._sheets[-1][0] <= number <= self._told:
            return False
        if not isinstance(files, tuple) or not all([self._stands(file) for file in files]):
            return False
        return len(set(files)) == len(files)

    def _stands(self, file):
        """Returns True if any value is a file that was laid and not cleared."""
        return is_whole(file) and file in self._files and "gone" not in self._files[file]

    def _do(self, step):
        """Does a step that fits."""
        if step[0] == "note":
            self._noted = step[1]
        elif step[0] == "tell":
            self._told = step[1]
        elif step[0] == "list":
            self._sheets.append(step[1:])
        elif step[0] == "trim":
            self._trims.append(step[1])
        elif step[0] == "lay":
            self._files[step[1]] = ("whole", "broken")
        elif step[0] == "clear":
            self._files[step[1]] = (*self._files[step[1]], "gone")
        else:
            self._make_lasting(step[1])

    def _make_lasting(self, part):
        """Makes the log, the newest sheet or a file lasting."""
        if part == "log":
            self._lasting = self._noted
        elif part == "sheet":
            self._lasting_sheet = len(self._sheets) - 1
        else:
            self._files[part] = tuple([state for state in self._files[part] if state != "broken"])


def come_up(left):
    """Returns the number with which a left device comes up, or None if it fails."""
    trim, end, (number, files), pairs = left
    states = dict(pairs)
    if trim > number or not all([states.get(file) == "whole" for file in files]):
        return None
    return max(number, end)
