"""Stores: standings, deeds that lead from one to another, and what is seen."""

from playedlate.errors import BadDeeds, BadLooks, BadStandings, NoDeed, NoStanding
from playedlate.names import is_name

MOST_STANDINGS = 5
MOST_DEEDS = 4


def right_standings(value):
    """Whether any value is a list or tuple of 1 to 5 different names."""
    if not isinstance(value, (list, tuple)) or not 1 <= len(value) <= MOST_STANDINGS:
        return False
    # Only names are sure to be hashable, so they are counted last.
    return all([is_name(entry) for entry in value]) and len(set(value)) == len(value)


def from_all(value, standings):
    """Whether any value is a dict that has the standings as its keys, and no others."""
    if not isinstance(value, dict) or len(value) != len(standings):
        return False
    return all([standing in value for standing in standings])


def right_leads(value, standings):
    """Whether any value is a dict from all standings to standings."""
    if not from_all(value, standings):
        return False
    return all([isinstance(behind, str) and behind in standings for behind in value.values()])


def right_deeds(value, standings):
    """Whether any value is a dict of 1 to 4 deeds, each with where it leads each standing."""
    if not isinstance(value, dict) or not 1 <= len(value) <= MOST_DEEDS:
        return False
    return all([is_name(deed) and right_leads(leads, standings) for deed, leads in value.items()])


def right_looks(value, standings):
    """Whether any value is a dict from all standings to names."""
    if not from_all(value, standings):
        return False
    return all([is_name(seen) for seen in value.values()])


class Store:
    """A store of standings, of which the first one is the start."""

    def __init__(self, standings, deeds, looks):
        if not right_standings(standings):
            raise BadStandings(standings)
        if not right_deeds(deeds, standings):
            raise BadDeeds(deeds)
        if not right_looks(looks, standings):
            raise BadLooks(looks)
        self._standings = tuple(standings)
        self._deeds = tuple(deeds)
        self._leads = {deed: dict(leads) for deed, leads in deeds.items()}
        self._looks = dict(looks)

    def __eq__(self, other):
        return (
            isinstance(other, Store)
            and self._standings == other._standings
            and self._deeds == other._deeds
            and self._leads == other._leads
            and self._looks == other._looks
        )

    @property
    def standings(self):
        """The standings, the start first."""
        return self._standings

    @property
    def deeds(self):
        """The names of the deeds."""
        return self._deeds

    def look(self, standing):
        """What is seen at a standing."""
        self._check_standing(standing)
        return self._looks[standing]

    def lead(self, standing, row):
        """The standing to which a row of deeds leads a standing."""
        self._check_standing(standing)
        behind = standing
        for position, deed in enumerate(row):
            if not isinstance(deed, str) or deed not in self._leads:
                raise NoDeed(position)
            behind = self._leads[deed][behind]
        return behind

    def come(self):
        """The standings that can come, in the store's sequence."""
        found = []
        waiting = [self._standings[0]]
        while waiting:
            standing = waiting.pop()
            if standing not in found:
                found.append(standing)
                waiting.extend([self._leads[deed][standing] for deed in self._deeds])
        return [name for name in self._standings if name in found]

    def _check_standing(self, value):
        # A list or a dict cannot be looked up in a dict, so strings are told apart first.
        if not isinstance(value, str) or value not in self._looks:
            raise NoStanding(value)
