"""Values that several tests use, and slow, plain ways to say what the document says."""

import itertools
import random

# the errors by their parameters, as the interface lists them
ERRORS = {
    "name": "BadKind BadName Taken Unknown Outside Refused",
    "key": "BadKey Unordered Sandwiched",
    "number": "Fewer BadLimit TooMany",
    "line": "BadLog",
    "what": "TooLarge",
    "place": "BadWord BadEffect BadStretch BadField BadBatch BadStep BadMenu BadTable BadRun BadMark NoPlace NotClosed "
             "BadSteps NotRight BadPlan BadSizes",
    None: "BadLeast Loose OtherBook OtherWindow Closed",
}
PARAMETER = {error: parameter for parameter, errors in ERRORS.items() for error in errors.split()}

KINDS = ("list", "bag", "set", "first", "last", "ends", "heads", "tails")
LEAST_LETTER, GREATEST_LETTER = 0, 999999999
TOP = 1000000


# none of these is a kind, a word, an effect, a key, a stretch, a batch, a step or the like
ODD_VALUES = (None, True, False, 1.0, -1, 10 ** 30, "", "lists", b"list", {}, {1}, object(), len)

BAD_KINDS = ODD_VALUES + (0, 1, "List", "list ", ("list",), ["list"], TOP)

# entries that are no letters; the greatest and the least letter are the neighbours of two of them
BAD_LETTERS = ODD_VALUES + (GREATEST_LETTER + 1, "a", (1,), [1])


class Raising:
    """Asks for an error of just one class, with just one value of its parameter."""

    def raised(self, error, value, call, *args, **keywords):
        """The call raises the error; value is a list of the value of its parameter, None if it has none."""
        with self.assertRaises(Exception) as caught:
            call(*args, **keywords)
        self.assertIs(caught.exception.__class__, error)
        self.assertEqual(PARAMETER[error.__name__] is None, value is None)
        if value is not None:
            told = getattr(caught.exception, PARAMETER[error.__name__])
            self.assertTrue(told is value[0] or (told.__class__, told) == (value[0].__class__, value[0]))

    def bad_kinds(self, error, call, *args, **keywords):
        """The call raises the error for each first argument that is no kind, whatever the others are."""
        for name in BAD_KINDS:
            self.raised(error, [name], call, name, *args, **keywords)


def words(letters, most, least=0):
    """Returns all words over the letters with at least and at most so many letters."""
    return [word for many in range(least, most + 1) for word in itertools.product(letters, repeat=many)]


def plain(kind, word):
    """Returns the plain word, as point 3 says it."""
    word = list(word)
    if kind == "list":
        return tuple(word)
    if kind == "bag":
        return tuple(sorted(word))
    if kind == "set":
        return tuple(letter for letter in sorted(set(word)))
    if kind == "first":
        return tuple([word[0]] if word else [])
    if kind == "last":
        return tuple([word[len(word) - 1]] if word else [])
    if kind == "ends":
        return tuple([word[0], word[len(word) - 1]] if word else [])
    if kind == "heads":
        return tuple(sorted(set(word), key=word.index))
    return tuple(sorted(set(word), key=lambda letter: max(at for at, other in enumerate(word) if other == letter)))


def plain_words(kind, letters, most):
    """Returns all plain words of words over the letters with at most so many letters, the shortest first."""
    found = {plain(kind, word) for word in words(letters, most)}
    return sorted(found, key=lambda word: (len(word), word))


def normal_form(kind, effect):
    """Returns the normal form of an effect, as point 8 says it."""
    return (True, effect[1]) if kind == "last" and effect[1] else effect


def effects(kind, letters, most):
    """Returns all effects in normal form with plain words of words of at most so many letters."""
    found = {normal_form(kind, (clear, word)) for clear in (False, True) for word in plain_words(kind, letters, most)}
    return sorted(found)


def any_effects(kind, letters, most):
    """Returns all effects, in normal form or not."""
    return [(clear, word) for clear in (False, True) for word in plain_words(kind, letters, most)]


def makes(kind, effect, state):
    """Returns what an effect makes of a state, as point 8 says it."""
    return effect[1] if effect[0] else plain(kind, state + effect[1])


# enough states to tell effects over the letters 0, 1 and 2 apart
def states(kind):
    """Returns some states, among them () and one with a letter that no sample effect has."""
    return plain_words(kind, (0, 1, 7), 2)


def random_word(rng, letters=3, most=3):
    """Returns a word."""
    return tuple(rng.randrange(letters) for _ in range(rng.randrange(most + 1)))


def random_batch(rng, keys=12, strokes=4, edge=True):
    """Returns a batch whose strokes may lie over one another, some of them at the edges of all keys."""
    out = []
    for _ in range(rng.randrange(strokes + 1)):
        a = rng.randrange(keys)
        b = rng.randrange(a + 1, keys + 2)
        if edge and rng.randrange(6) == 0:
            b = TOP
        out.append((a, b, rng.random() < 0.4, random_word(rng)))
    return tuple(out)


def random_pieces(rng, things, keys=14):
    """Returns a row of pieces that ascend and share no keys; equal ones may touch."""
    out = []
    end = 0
    while end < keys:
        a = end + rng.randrange(3)
        b = a + 1 + rng.randrange(3)
        out.append((a, b, rng.choice(things)))
        end = b
    if rng.randrange(4) == 0:
        out.append((end, TOP, rng.choice(things)))
    return out


def sample_keys(*rows):
    """Returns keys that meet each piece of the rows, its neighbours and the edges of all keys."""
    keys = {0, 1, TOP - 1}
    for row in rows:
        for piece in row:
            keys |= {piece[0] - 1, piece[0], piece[1] - 1, piece[1]}
    return sorted(key for key in keys if 0 <= key < TOP)


def random_steps(rng, many, keys=10):
    """Returns a row of steps of a book; many of them are refused."""
    out = []
    for _ in range(many):
        word = rng.choice(("write", "write", "write", "sync", "crash", "hold", "hold", "narrow", "drop", "read", "ask"))
        name = rng.choice((0, 3, 99))
        a = rng.randrange(keys)
        b = rng.randrange(a + 1, keys + 1)
        values = {
            "write": (random_batch(rng, keys),), "sync": (), "crash": (rng.randrange(3),), "hold": (name, a, b),
            "narrow": (name, a, b), "drop": (name,), "read": (a,), "ask": (name, a),
        }
        out.append((word, *values[word]))
    return out


def seeded(number):
    """Returns a source of numbers that are the same in each run."""
    return random.Random(number)
