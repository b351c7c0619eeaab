"""Runs, stacks, marks and shelves that several tests use, and slow, plain ways to say what is told of them."""

import itertools

from leastshelf.overlays import key_set
from leastshelf.runs import Run
from samples import TOP, effects, makes, normal_form, plain, plain_words

# all sample runs, marks and key sets are made of these cells, the last of which goes up to the last key
CELLS = 7
CELL_KEYS = (*range(CELLS), TOP - 1)
NO_KEYS = key_set([])
ALL_KEYS = key_set([(0, TOP)])


def cell(at):
    """Returns the stretch of a cell."""
    return (at, at + 1) if at < CELLS - 1 else (at, TOP)


def random_stretch(rng):
    """Returns a stretch of one or more cells."""
    a, b = sorted((rng.randrange(CELLS), rng.randrange(CELLS)))
    return (cell(a)[0], cell(b)[1])


def random_keys(rng, share=0.5):
    """Returns a key set of some cells."""
    return key_set([cell(at) for at in range(CELLS) if rng.random() < share])


def random_effect(rng, kind, letters=3, clears=0.4):
    """Returns an effect in normal form that is not idle."""
    if rng.random() < clears / 3:
        return (True, ())
    word = [rng.randrange(letters) for _ in range(rng.choice((1, 1, 1, 2, 3)))]
    return normal_form(kind, (rng.random() < clears, plain(kind, word)))


def random_row(rng, kind, begin, end, letters=3, clears=0.4):
    """Returns an entry row."""
    numbers = [number for number in range(begin + 1, end + 1) if rng.random() < 0.6]
    return tuple((number, *random_effect(rng, kind, letters, clears)) for number in numbers)


def random_run(rng, kind, begin, end, letters=3, reach=0.7, clears=0.4):
    """Returns a run; some keys of its reach have no entries."""
    rows = [random_row(rng, kind, begin, end, letters, clears) for _ in range(4)] + [()]
    held = [at for at in range(CELLS) if rng.random() < reach]
    pieces = [(*cell(at), rng.choice(rows)) for at in held]
    return Run(kind, begin, end, key_set([cell(at) for at in held]), pieces)


def random_stack(rng, kind, many=3, ordered=True, letters=3, reach=0.7):
    """Returns a stack of at most so many runs, the oldest first, with windows in order or not."""
    out = []
    # few effects clear if windows are not in order, so that steps are missing often
    clears = 0.4 if ordered else 0.1
    end = rng.randrange(3)
    for _ in range(rng.randrange(1, many + 1)):
        begin = end + rng.choice((0, 0, 0, 1)) if ordered else rng.randrange(2)
        end = begin + rng.choice((1, 2, 3) if ordered else (3, 4))
        out.append(random_run(rng, kind, begin, end, letters, reach, clears))
    return out


def random_marks(rng, top, most=5):
    """Returns marks, some of them with numbers that may cut nothing."""
    return [(rng.randrange(top + 2), *random_stretch(rng)) for _ in range(rng.randrange(most + 1))]


def one_run(kind, begin, end, row, key=0):
    """Returns a run with one entry row at one key, and no other keys."""
    return Run(kind, begin, end, key_set([(key, key + 1)]), [(key, key + 1, row)])


def then_all(kind, row):
    """Returns the effects of a row, one then the next, as point 9 says it."""
    clear, word = False, ()
    for one_clear, one_word in row:
        clear, word = (True, one_word) if one_clear else (clear, plain(kind, word + one_word))
    return normal_form(kind, (clear, word))


def slow_up_to(stack, key, number):
    """Returns the effect of a stack at a key up to a number."""
    found = [entry for run in stack for entry in run.entries_at(key) if entry[0] <= number]
    return then_all(stack[0].kind, [(clear, word) for _, clear, word in found])


def slow_window(stack):
    """Returns the window of a stack."""
    return (min(run.begin for run in stack), max(run.end for run in stack))


def slow_cuts(begin, end, marks, key):
    """Returns the cuts of a window at a key."""
    found = {number for number, a, b in marks if a <= key < b and begin < number < end}
    return sorted(found | {end})


def slow_told(stack, marks, under, key):
    """Returns the told row at a key."""
    cuts = slow_cuts(*slow_window(stack), marks, key)
    row = [(cut, slow_up_to(stack, key, cut)) for cut in cuts]
    return row if under.at(key) else [(cut, (True, word)) for cut, (_, word) in row]


def slow_ground(under, key):
    """Returns the effect g0 at a key."""
    return (not under.at(key), ())


def slow_changes(told, ground):
    """Returns how many effects of a told row are unequal to the one before."""
    row = [ground] + [effect for _, effect in told]
    return sum(one != other for one, other in zip(row, row[1:]))


def makes_of(kind, told, beneath, letters=(0, 1, 8)):
    """Returns what the effects of a told row make of the states beneath a key, as far as these letters tell."""
    found = plain_words(kind, letters, 2) if beneath else [()]
    return [[makes(kind, effect, state) for state in found] for _, effect in told]


def entry_rows(kind, end, letters, most):
    """Returns all entry rows of a window (0, end) with words of at most so many letters."""
    choices = [None] + [effect for effect in effects(kind, letters, most) if effect != (False, ())]
    out = []
    for row in itertools.product(choices, repeat=end):
        out.append(tuple((at, *effect) for at, effect in enumerate(row, 1) if effect is not None))
    return out


def entry_letters(row):
    """Returns the number of letters of an entry row."""
    return sum(len(word) for _, _, word in row)
