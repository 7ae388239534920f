"""Plans: how letters are held, how often they are tried, and what guards their deeds."""

from playedlate.errors import BadPlan
from playedlate.integers import is_between

WAYS = ("letter", "key", "all")
GUARDS = ("once", "stamp")
MOST_TRIES = 3


def right_guards(value):
    """Whether any value is a list or tuple of different guards."""
    if not isinstance(value, (list, tuple)) or len(value) > len(GUARDS):
        return False
    # Only guards are sure to be hashable, so they are counted last.
    return all([entry in GUARDS for entry in value]) and len(set(value)) == len(value)


class Plan:
    """A way, guards and a number of tries."""

    def __init__(self, way, guards=(), *, tries=1):
        if way not in WAYS:
            raise BadPlan(way)
        if not right_guards(guards):
            raise BadPlan(guards)
        if not is_between(tries, 1, MOST_TRIES):
            raise BadPlan(tries)
        self._way = way
        self._guards = tuple(sorted(guards))
        self._tries = tries

    def __eq__(self, other):
        return (
            isinstance(other, Plan)
            and self._way == other._way
            and self._guards == other._guards
            and self._tries == other._tries
        )

    @property
    def way(self):
        """The way: letter, key or all."""
        return self._way

    @property
    def guards(self):
        """The guards, ascending."""
        return self._guards

    @property
    def tries(self):
        """How often a letter in the line may fail before it goes to the shelf."""
        return self._tries
