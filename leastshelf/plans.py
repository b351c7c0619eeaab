"""Plans: which runs are poured together behind which spill, and what that writes."""

from leastshelf.errors import BadPlan, BadSizes
from leastshelf.kinds import is_row, is_whole


def is_size_row(thing, many):
    """Returns True if any value is a row of so many sizes."""
    return is_row(thing) and len(thing) == many and all([is_whole(size) and size >= 0 for size in thing])


def check_sizes(sizes, spills):
    """Returns the size table of so many spills, a tuple of tuples; raises BadSizes for any other value."""
    if not is_row(sizes):
        raise BadSizes(0)
    for place in range(spills):
        if place >= len(sizes) or not is_size_row(sizes[place], spills - place):
            raise BadSizes(place)
    if len(sizes) > spills:
        raise BadSizes(spills)
    return tuple([tuple(row) for row in sizes])


def is_span(thing):
    """Returns True if any value is a span."""
    if not isinstance(thing, tuple) or len(thing) != 2:
        return False
    return is_whole(thing[0]) and is_whole(thing[1]) and 0 <= thing[0] < thing[1]


def runs_behind_pour(standing, span):
    """Returns the spans of the runs behind a pour, the oldest first, or None if it is not allowed."""
    within = [run for run in standing if span[0] <= run[0] and run[1] <= span[1]]
    if len(within) < 2 or within[0][0] != span[0] or within[-1][1] != span[1]:
        return None
    older = [run for run in standing if run[1] <= span[0]]
    newer = [run for run in standing if run[0] >= span[1]]
    return [*older, span, *newer]


def runs_behind_row(standing, row):
    """Returns the spans of the runs behind the row of a spill, any value, or None if it is not allowed."""
    if not is_row(row) or not all([is_span(span) for span in row]):
        return None
    left = standing
    for span in row:
        left = runs_behind_pour(left, span)
        if left is None:
            return None
    return left


class Plan:
    """A plan: for each spill the row of the pours that follow it."""

    def __init__(self, rows):
        if not is_row(rows):
            raise BadPlan(0)
        left = []
        standing = []
        for spill, row in enumerate(rows):
            left = runs_behind_row([*left, (spill, spill + 1)], row)
            if left is None:
                raise BadPlan(spill)
            standing.append(tuple(left))
        self._standing = tuple(standing)
        self._spans = tuple([tuple(row) for row in rows])

    @property
    def height(self):
        """The greatest number of runs that stand behind the row of a spill."""
        return max([len(runs) for runs in self._standing], default=0)

    def outcomes(self):
        """Returns the list of the spans of the outcomes, in the order of the pours."""
        return [span for row in self._spans for span in row]

    def standing(self, spill):
        """Returns the list of the spans of the runs that stand behind the row of a spill, the oldest first."""
        return list(self._standing[spill])

    def writings(self):
        """Returns the list of the numbers of writings of the spills."""
        outcomes = self.outcomes()
        return [1 + len([i for i, j in outcomes if i <= spill < j]) for spill in range(len(self._spans))]

    def price(self, sizes):
        """Returns the price under a size table of as many spills; raises BadSizes."""
        plain = check_sizes(sizes, len(self._spans))
        return sum([plain[i][j - i - 1] for i, j in self.outcomes()])

    def __eq__(self, other):
        return isinstance(other, Plan) and self._spans == other._spans

    def __len__(self):
        return len(self._spans)

    def __iter__(self):
        return iter(self._spans)
