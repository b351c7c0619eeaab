"""Cursors, which read a live view piece by piece and let go what they have read."""


class Cursor:
    """A cursor over the live view of a name."""

    def __init__(self, book, name):
        # asks for the view only to raise what is wrong with the name
        book.view(name)
        self.name = name
        self._book = book
        self._done = False

    @property
    def done(self):
        """True if the cursor has itself dropped the view."""
        return self._done

    def forward(self):
        """Returns the first piece and narrows the view to the keys behind it; None without one."""
        return self._move(False)

    def backward(self):
        """Returns the last piece and narrows the view to the keys ahead of it; None without one."""
        return self._move(True)

    def sweep(self, *, back=False):
        """Yields the pieces of moves forward, or backward, until the cursor is done."""
        while not self._done:
            piece = self._move(back)
            if piece is not None:
                yield piece

    def _move(self, back):
        """Returns a piece from one end of the view, and lets go its keys; None without one."""
        if self._done:
            return None
        a, b, pieces = self._book.view(self.name)
        if len(pieces) == 0:
            self._leave(a, a)
            return None
        if back:
            self._leave(a, pieces[-1][0])
            return pieces[-1]
        self._leave(pieces[0][1], b)
        return pieces[0]

    def _leave(self, a, b):
        """Narrows the view to the keys from a to b - 1; drops it, and is done, if there are none."""
        if a < b:
            self._book.narrow(self.name, a, b)
        else:
            self._book.drop(self.name)
            self._done = True
