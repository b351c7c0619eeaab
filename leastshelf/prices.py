"""The least prices of plans for a bounded number of runs, and plans that have them."""

from leastshelf.errors import BadLimit, BadSizes
from leastshelf.kinds import is_row, is_whole
from leastshelf.plans import Plan, check_sizes


class PriceTable:
    """The least prices of the plans for at most 1 to height runs, for all spills from i to j - 1."""

    def __init__(self, sizes, height):
        if not is_row(sizes):
            raise BadSizes(0)
        self._sizes = check_sizes(sizes, len(sizes))
        if not is_whole(height) or height < 1:
            raise BadLimit(height)
        self._height = height
        # without a run there is a plan for no spills alone
        self._prices = {(0, i, i): 0 for i in range(len(self._sizes) + 1)}
        self._seams = {}
        self._fill()

    def __call__(self, k, i, j):
        return self._prices[(k, i, j)]

    def seam(self, k, i, j):
        """Returns the seam of (k, i, j)."""
        return self._seams[(k, i, j)]

    @property
    def least(self):
        """The least price of all spills for at most height runs."""
        return self._prices[(self._height, 0, len(self._sizes))]

    @property
    def least_to_one(self):
        """The least price of the plans that leave just one run, None without spills."""
        many = len(self._sizes)
        if many == 0:
            return None
        if many == 1:
            return 0
        return self._sizes[0][many - 1] + self._prices[(self._height, 0, many - 1)]

    def closed_rows(self):
        """Returns the list of the tuples (k, i, j, price, seam), ascending."""
        many = len(self._sizes)
        places = [(k, i, j) for k in range(1, self._height + 1) for i in range(many + 1) for j in range(i, many + 1)]
        return [(*place, self._prices[place], self._seams[place]) for place in places]

    def cheapest(self):
        """Returns the cheapest plan of all spills for at most height runs."""
        return Plan(self._plan_rows(self._height, 0, len(self._sizes)))

    def _fill(self):
        """Finds all prices and seams; those of fewer runs, later spills and fewer spills come first."""
        many = len(self._sizes)
        for k in range(1, self._height + 1):
            for i in range(many, -1, -1):
                self._prices[(k, i, i)] = 0
                self._seams[(k, i, i)] = i
                for j in range(i + 1, many + 1):
                    price, seam = min(self._prices_of_seams(k, i, j))
                    self._prices[(k, i, j)] = price
                    self._seams[(k, i, j)] = seam

    def _prices_of_seams(self, k, i, j):
        """Returns the list of the prices of the seams of (k, i, j), each with its seam."""
        out = []
        for seam in range(i + 1, j + 1):
            behind = self._prices.get((k - 1, seam, j))
            if behind is not None and seam == i + 1:
                out.append((behind, seam))
            elif behind is not None:
                out.append((self._sizes[i][seam - i - 1] + self._prices[(k, i, seam - 1)] + behind, seam))
        return out

    def _plan_rows(self, k, i, j):
        """Returns the rows of the cheapest plan of (k, i, j), a list."""
        if i == j:
            return []
        seam = self._seams[(k, i, j)]
        ahead = [()] if seam == i + 1 else [*self._plan_rows(k, i, seam - 1), ((i, seam),)]
        return [*ahead, *self._plan_rows(k - 1, seam, j)]
