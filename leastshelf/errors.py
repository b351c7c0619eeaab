"""The errors of the package; each carries at most one value, as an attribute."""


def shown(value):
    """Returns a short text for a value; showing any value as it is could itself fail."""
    if value is None or isinstance(value, bool):
        return str(value)
    if isinstance(value, int) and abs(value) < 10 ** 12:
        return str(value)
    if isinstance(value, str) and len(value) < 60:
        return repr(value)
    return "of another form"


class StoreError(ValueError):
    """The base of all errors of the package."""


class NameFault(StoreError):
    """The base of the errors about a name."""

    def __init__(self, name):
        super().__init__(f"name {shown(name)}")
        self.name = name


class KeyFault(StoreError):
    """The base of the errors about a key."""

    def __init__(self, key):
        super().__init__(f"key {shown(key)}")
        self.key = key


class NumberFault(StoreError):
    """The base of the errors about a number."""

    def __init__(self, number):
        super().__init__(f"number {shown(number)}")
        self.number = number


class LineFault(StoreError):
    """The base of the errors about a line of a text."""

    def __init__(self, line):
        super().__init__(f"line {shown(line)}")
        self.line = line


class SizeFault(StoreError):
    """The base of the errors about something that is too large."""

    def __init__(self, what):
        super().__init__(f"too many {shown(what)}")
        self.what = what


class PlaceFault(StoreError):
    """The base of the errors about a place in a row, or about a named part."""

    def __init__(self, place):
        super().__init__(f"place {shown(place)}")
        self.place = place


class BadKind(NameFault):
    """The name is that of no kind."""


class BadName(NameFault):
    """The name is no name of a view."""


class Taken(NameFault):
    """A view of this name is live."""


class Unknown(NameFault):
    """No view of this name is live."""


class Outside(NameFault):
    """A key or a stretch is outside of the stretch of the view of this name."""


class Refused(NameFault):
    """The deed of this name cannot be done now."""


class BadKey(KeyFault):
    """The value is no key, or no key that is asked for."""


class Unordered(KeyFault):
    """A step of a least run does not exist at this key."""


class Sandwiched(KeyFault):
    """The lot sandwiches this key."""


class Fewer(NumberFault):
    """There are fewer loose batches than this number."""


class BadLimit(NumberFault):
    """The value is no limit."""


class TooMany(NumberFault):
    """More is asked for than this number."""


class BadLog(LineFault):
    """The line of a log text is wrong."""


class TooLarge(SizeFault):
    """There is more of this than is taken."""


class BadWord(PlaceFault):
    """The entry at this place is no letter."""


class BadEffect(PlaceFault):
    """The entry at this place is no effect."""


class BadStretch(PlaceFault):
    """The entry at this place is no stretch."""


class BadField(PlaceFault):
    """The piece at this place is none, or comes too early."""


class BadBatch(PlaceFault):
    """The entry at this place is no stroke."""


class BadStep(PlaceFault):
    """The entry at this place is no step."""


class BadMenu(PlaceFault):
    """The entry at this place does not fit a menu."""


class BadTable(PlaceFault):
    """The line at this place does not fit a table."""


class BadRun(PlaceFault):
    """The part of a run, or the entry at this place, does not fit."""


class BadMark(PlaceFault):
    """The entry at this place is no mark."""


class NoPlace(PlaceFault):
    """The value is no place."""


class NotClosed(PlaceFault):
    """A lot is not closed; a way back leads over this place."""


class BadSteps(PlaceFault):
    """The step of a device at this place is not in form."""


class NotRight(PlaceFault):
    """The steps of a device are not right; this is a fault."""


class BadPlan(PlaceFault):
    """The row of this spill does not fit a plan."""


class BadSizes(PlaceFault):
    """The row at this place does not fit a size table."""


class BadLeast(StoreError):
    """The value is no least store."""


class Loose(StoreError):
    """There are as many loose batches as the limit."""


class OtherBook(StoreError):
    """Two books have unequal kinds or limits."""


class OtherWindow(StoreError):
    """Two stacks have unequal kinds or windows."""


class Closed(StoreError):
    """The block of a trial was entered before."""
