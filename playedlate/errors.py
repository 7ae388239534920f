"""The errors that the program raises."""


class LateError(ValueError):
    """The error that all others of the program derive from."""


class BadStandings(LateError):
    """A value that is no row of standings for a store."""

    def __init__(self, value):
        self.value = value


class BadDeeds(LateError):
    """A value that is no dict of deeds for a store."""

    def __init__(self, value):
        self.value = value


class BadLooks(LateError):
    """A value that is no dict of looks for a store."""

    def __init__(self, value):
        self.value = value


class NoStanding(LateError):
    """A value that is no standing of a store."""

    def __init__(self, value):
        self.value = value


class NoDeed(LateError):
    """The position of an entry that is no deed of a store."""

    def __init__(self, position):
        self.position = position


class BadPlan(LateError):
    """A value that is not right for a plan."""

    def __init__(self, value):
        self.value = value


class BadEvent(LateError):
    """The position of an entry that is no event that is possible there."""

    def __init__(self, position):
        self.position = position


class NotNow(LateError):
    """A value that is no event or letter of a shelf now."""

    def __init__(self, value):
        self.value = value


class TooFar(LateError):
    """How many events there are to take back, where more were asked for."""

    def __init__(self, count):
        self.count = count


class BadSends(LateError):
    """A value that is no dict from deeds of one store to deeds of another."""

    def __init__(self, value):
        self.value = value


class BadText(LateError):
    """The number of the first line that is not the text of an event."""

    def __init__(self, line):
        self.line = line
