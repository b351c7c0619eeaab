"""Plans that write no spill often, and the least prices of spills that are all unlike."""

from math import comb

from leastshelf.errors import TooMany
from leastshelf.plans import Plan


def most_spills(height, writings):
    """Returns the number of spills of the spread of (height, writings)."""
    return comb(height + writings, height) - 1


def fewest_writings(spills, height):
    """Returns the least number of writings with which so many spills fit into the height."""
    writings = 0
    while most_spills(height, writings) < spills:
        writings += 1
    return writings


def spread_rows(height, writings, first, most):
    """Returns at most so many rows of the spread of (height, writings), its spills numbered from first."""
    rows = []
    if height == 0:
        return rows
    # the spread with one writing more goes on behind that with one less
    for many in range(1, writings + 1):
        if len(rows) >= most:
            break
        end = first + len(rows) + 1
        rows.append(((first, end),) if rows else ())
        rows.extend(spread_rows(height - 1, many, end, most - len(rows)))
    return rows


def spread(height, writings, *, spills=None):
    """Returns the spread of (height, writings), or the plan of its first rows; raises TooMany."""
    most = most_spills(height, writings)
    if spills is not None and spills > most:
        raise TooMany(most)
    return Plan(spread_rows(height, writings, 0, most if spills is None else spills))


def unlike_sizes(spills):
    """Returns the size table of so many unlike spills, a list of lists."""
    return [list(range(1, spills - i + 1)) for i in range(spills)]


def needed_numbers(height, full, wanted):
    """Returns how many numbers of point 128 are needed from the front for a sum of at least wanted."""
    needed = 0
    left = wanted
    for r in range(height):
        number = height - r
        # of equal numbers just as many are taken as the sum needs
        taken = min(comb(full - 1 + r, r), (left + number - 1) // number)
        needed += taken
        left = max(0, left - number * taken)
    return needed


def unlike_price(spills, height):
    """Returns the least price of so many unlike spills for at most height runs."""
    if spills == 0:
        return 0
    full = fewest_writings(spills, height) - 1
    more = spills - most_spills(height, full)
    rows = [a * comb(height + a, height - 1) + comb(height + a - 1, height - 1) for a in range(1, full)]
    needed = needed_numbers(height, full, more) if full > 0 else 0
    return sum(rows) + full * more + needed
