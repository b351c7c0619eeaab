"""Letters, words, and the eight kinds with their plain words and rests."""

from leastshelf.errors import BadKind, BadWord

KIND_NAMES = ("list", "bag", "set", "first", "last", "ends", "heads", "tails")
IDEMPOTENT = ("set", "first", "last", "ends", "heads", "tails")

# for each kind, the kinds that it is under
ABOVE = {
    "list": ("list",),
    "bag": ("list", "bag"),
    "set": ("list", "bag", "set", "heads", "tails"),
    "first": ("list", "first", "ends", "heads"),
    "last": ("list", "last", "ends", "tails"),
    "ends": ("list", "ends"),
    "heads": ("list", "heads"),
    "tails": ("list", "tails"),
}

PARTING_PAIRS = (
    ((1, 2), (2, 1)),
    ((1, 1), (1,)),
    ((1, 2, 3), (1, 3)),
    ((1, 2, 1), (1, 2)),
    ((1, 2, 1), (2, 1)),
)

GREATEST_LETTER = 999999999


def different(letters):
    """Returns the list of the different letters, in the order of their first places."""
    seen = set()
    out = []
    for letter in letters:
        if letter not in seen:
            seen.add(letter)
            out.append(letter)
    return out


class Kind:
    """The kind list."""

    NAME = "list"

    def plain(self, word):
        """Returns the plain word of a row of letters."""
        return tuple(word)

    def rest_between(self, one, other):
        """Returns the rest from one plain word to the other, or None."""
        if other[:len(one)] != one:
            return None
        return other[len(one):]


class BagKind(Kind):
    """The kind bag."""

    NAME = "bag"

    def plain(self, word):
        """Returns the letters, ascending."""
        return tuple(sorted(word))

    def rest_between(self, one, other):
        """Returns the letters that stand more often in other than in one, or None."""
        spare = {}
        for letter in other:
            spare[letter] = spare.get(letter, 0) + 1
        for letter in one:
            if spare.get(letter, 0) == 0:
                return None
            spare[letter] -= 1
        # the letters of other ascend, so spare has them in this order too
        return tuple([letter for letter in spare for _ in range(spare[letter])])


class SetKind(BagKind):
    """The kind set."""

    NAME = "set"

    def plain(self, word):
        """Returns the different letters, ascending."""
        return tuple(sorted(set(word)))


class HeadsKind(Kind):
    """The kind heads."""

    NAME = "heads"

    def plain(self, word):
        """Returns the different letters in the order of their first places."""
        return tuple(different(word))


class FirstKind(HeadsKind):
    """The kind first."""

    NAME = "first"

    def plain(self, word):
        """Returns the first letter alone."""
        return tuple(word[:1])


class TailsKind(Kind):
    """The kind tails."""

    NAME = "tails"

    def plain(self, word):
        """Returns the different letters in the order of their last places."""
        return tuple(different(word[::-1])[::-1])

    def rest_between(self, one, other):
        """Returns what is left of other behind a start that one has in the same order, or None."""
        if len(set(one) - set(other)) > 0:
            return None
        places = {letter: place for place, letter in enumerate(one)}
        kept = 0
        before = -1
        for letter in other:
            place = places.get(letter, -1)
            if place <= before:
                break
            before = place
            kept += 1
        return other[kept:]


class LastKind(TailsKind):
    """The kind last."""

    NAME = "last"

    def plain(self, word):
        """Returns the last letter alone."""
        return tuple(word[-1:])

    def rest_between(self, one, other):
        """Returns the other word, if it is not empty or there is nothing to do, or None."""
        if one == other:
            return ()
        if other == ():
            return None
        return other


class EndsKind(Kind):
    """The kind ends."""

    NAME = "ends"

    def plain(self, word):
        """Returns the first letter, then the last one."""
        return (*word[:1], *word[-1:])

    def rest_between(self, one, other):
        """Returns the other word, if it begins as one does or one is empty, or None."""
        if one == other:
            return ()
        if one != () and one[:1] != other[:1]:
            return None
        return other


def is_row(thing):
    """Returns True if any value is a row."""
    return isinstance(thing, (list, tuple))


def is_whole(thing):
    """Returns True if any value is an integer."""
    return isinstance(thing, int) and not isinstance(thing, bool)


def is_letter(thing):
    """Returns True if any value is a letter."""
    return isinstance(thing, int) and not isinstance(thing, bool) and 0 <= thing <= GREATEST_LETTER


def check_kind(name):
    """Returns the name of a kind; raises BadKind for any other value."""
    if not isinstance(name, str) or name not in KIND_NAMES:
        raise BadKind(name)
    return name


def kind_named(name):
    """Returns a new object of the class of this kind."""
    check_kind(name)
    if name == "bag":
        return BagKind()
    if name == "set":
        return SetKind()
    if name == "first":
        return FirstKind()
    if name == "last":
        return LastKind()
    if name == "ends":
        return EndsKind()
    if name == "heads":
        return HeadsKind()
    if name == "tails":
        return TailsKind()
    return Kind()


def is_word(thing):
    """Returns True if any value is a word."""
    return isinstance(thing, tuple) and all([is_letter(letter) for letter in thing])


def is_plain(kind, thing):
    """Returns True if any value is a plain word."""
    maker = kind_named(kind)
    return is_word(thing) and maker.plain(thing) == thing


def check_word(thing):
    """Returns the word of a row of letters; raises BadWord for any other value."""
    if not is_row(thing):
        raise BadWord(0)
    for place, letter in enumerate(thing):
        if not is_letter(letter):
            raise BadWord(place)
    return tuple(thing)


def plain_word(kind, word):
    """Returns the plain word of a row of letters; raises BadWord for any other value."""
    maker = kind_named(kind)
    return maker.plain(check_word(word))


def joined(kind, *words):
    """Returns the plain word of rows of letters, written one behind another."""
    maker = kind_named(kind)
    return maker.plain(check_word([letter for word in words for letter in word]))


def rest(kind, one, other):
    """Returns the rest from one plain word to another, or None."""
    return kind_named(kind).rest_between(one, other)


def fresh_word(kind, *words):
    """Returns the plain word of the least letter that is in none of the words."""
    maker = kind_named(kind)
    used = {letter for word in words for letter in word}
    fresh = 0
    while fresh in used:
        fresh += 1
    return maker.plain((fresh,))


def under(one, other):
    """Returns True if the kind one is under the kind other."""
    check_kind(one)
    check_kind(other)
    return other in ABOVE[one]


def parted_words(one, other):
    """Returns two words that are alike under other and not under one, or None."""
    fine = kind_named(one)
    coarse = kind_named(other)
    for left, right in PARTING_PAIRS:
        if coarse.plain(left) == coarse.plain(right) and fine.plain(left) != fine.plain(right):
            return (left, right)
    return None
