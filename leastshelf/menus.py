"""Menus: all states that rows of given steps lead a new book to."""

from leastshelf.books import Book
from leastshelf.deeds import is_step, plain_step
from leastshelf.errors import BadMenu, NoPlace, TooLarge
from leastshelf.futures import parting
from leastshelf.kinds import check_kind, is_whole
from leastshelf.leasts import check_most

MOST_STEPS = 24
MOST_STATES = 400


def menu_steps(kind, steps):
    """Returns the tuple of the steps of a menu, as tuples throughout."""
    if len(steps) > MOST_STEPS:
        raise TooLarge("steps")
    known = {}
    for place, thing in enumerate(steps):
        if not is_step(thing) or plain_step(kind, thing) in known:
            raise BadMenu(place)
        known[plain_step(kind, thing)] = True
    return tuple(known)


class Menu:
    """A menu: a row of steps, and the states that a new book comes to by them."""

    def __init__(self, kind, steps, *, most):
        self._kind = check_kind(kind)
        self._most = check_most(most)
        self._steps = menu_steps(kind, steps)
        self._books = []
        self._states = []
        self._rows = []
        self._lines = []
        self._explore()

    @property
    def kind(self):
        """The kind."""
        return self._kind

    @property
    def most(self):
        """The limit."""
        return self._most

    def __len__(self):
        return len(self._states)

    def steps(self):
        """Returns the list of the steps, as tuples throughout."""
        return list(self._steps)

    def states(self):
        """Returns the list of the states, as tuples throughout."""
        return list(self._states)

    def row_to(self, number):
        """Returns the row of a state, a list."""
        if not is_whole(number) or not 0 <= number < len(self._states):
            raise NoPlace(number)
        return list(self._rows[number])

    def table(self):
        """Returns the own table, a list of lists."""
        return [list(line) for line in self._lines]

    def full_pair(self):
        """Returns None if the menu is full, otherwise the first two states that it does not part."""
        known = {step: True for step in self._steps}
        for i, one in enumerate(self._books):
            for j in range(i + 1, len(self._books)):
                if [step for step in parting(one, self._books[j]) if step not in known]:
                    return (i, j)
        return None

    def _explore(self):
        """Finds all states in the order of their rows, with their lines of the own table."""
        numbers = {}
        self._enter(numbers, Book(self._kind, most=self._most), [])
        # each state has its number before its own line is made, so lines come in order too
        while len(self._lines) < len(self._states):
            state = len(self._lines)
            line = []
            for number, step in enumerate(self._steps):
                book = self._books[state].twin()
                answer = book.answer(step)
                line.append((answer, self._enter(numbers, book, [*self._rows[state], number])))
            self._lines.append(line)

    def _enter(self, numbers, book, row):
        """Returns the number of the state of a book, a new one if the row is the first to it."""
        least = book.least_store()
        if least not in numbers:
            if len(self._states) == MOST_STATES:
                raise TooLarge("states")
            numbers[least] = len(self._states)
            self._books.append(book)
            self._states.append(least)
            self._rows.append(row)
        return numbers[least]
