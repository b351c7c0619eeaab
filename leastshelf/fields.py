"""Fields: a thing for each key, kept as pieces in one form."""

from leastshelf.errors import BadField
from leastshelf.stretches import TOP, check_key, check_stretch, is_stretch


def check_pieces(pieces):
    """Raises BadField with the place of the first entry that is no piece, or comes too early."""
    end = 0
    for place, piece in enumerate(pieces):
        if not isinstance(piece, tuple) or len(piece) != 3:
            raise BadField(place)
        if not is_stretch(piece[:2]) or piece[0] < end:
            raise BadField(place)
        end = piece[1]


def in_one_form(neutral, pieces):
    """Returns the list of the pieces without neutral ones, joined where equal ones touch."""
    out = []
    for a, b, thing in pieces:
        if thing == neutral:
            continue
        if out and out[-1][1] == a and out[-1][2] == thing:
            out[-1] = (out[-1][0], b, thing)
        else:
            out.append((a, b, thing))
    return out


def clipped(pieces, begin, end):
    """Returns the list of the parts of the pieces between begin and end."""
    return [(max(a, begin), min(b, end), thing) for a, b, thing in pieces if max(a, begin) < min(b, end)]


class Field:
    """A field: the pieces have their things, all other keys have the neutral thing."""

    def __init__(self, neutral, pieces=()):
        check_pieces(pieces)
        self._neutral = neutral
        self._pieces = in_one_form(neutral, pieces)

    @property
    def neutral(self):
        """The neutral thing."""
        return self._neutral

    @property
    def size(self):
        """The number of keys whose thing is not neutral."""
        return sum([b - a for a, b, _ in self._pieces])

    def pieces(self):
        """Returns the list of the pieces, ascending."""
        return list(self._pieces)

    def at(self, key):
        """Returns the thing of a key."""
        check_key(key)
        low = 0
        high = len(self._pieces)
        # the piece with the key, if there is one, is the first that ends above the key
        while low < high:
            middle = (low + high) // 2
            if self._pieces[middle][1] <= key:
                low = middle + 1
            else:
                high = middle
        if low < len(self._pieces) and self._pieces[low][0] <= key:
            return self._pieces[low][2]
        return self._neutral

    def within(self, a, b):
        """Returns the field within the stretch (a, b)."""
        check_stretch((a, b))
        return Field(self._neutral, clipped(self._pieces, a, b))

    def painted(self, a, b, thing):
        """Returns the field painted with a thing over the stretch (a, b)."""
        check_stretch((a, b))
        ahead = clipped(self._pieces, 0, a)
        behind = clipped(self._pieces, b, TOP)
        return Field(self._neutral, [*ahead, (a, b, thing), *behind])

    def __eq__(self, other):
        return isinstance(other, Field) and self._neutral == other._neutral and self._pieces == other._pieces

    def __len__(self):
        return len(self._pieces)

    def __iter__(self):
        return iter(self._pieces)

    def __contains__(self, key):
        return self.at(key) != self._neutral
