"""Whether a store can come to harm by a plan, and which guards are enough against it."""

from playedlate.bearing import change_places, left_out, twice
from playedlate.plans import Plan

KEY = "k"
DONE = ("work", "done")
STOPS = ("work", "stops")
FAILS = ("work", "fails")
REPLAY = ("replay", "done")

# Each set stands behind its smaller parts.
SETS = ((), ("once",), ("stamp",), ("once", "stamp"))


def send(deed):
    """The event by which a letter with a deed is sent."""
    return ("send", KEY, deed)


def in_order(deeds):
    """Events by which letters with these deeds are sent, each done just once ahead of the next."""
    events = []
    for deed in deeds:
        events.extend([send(deed), DONE])
    return events


def repeated(store):
    """A row of events that shows harm by a deed that is done twice, or None."""
    for deed in store.deeds:
        found = twice(store, deed)
        if found is not None:
            before, behind = found
            return in_order(before) + [send(deed), STOPS, DONE] + in_order(behind)
    return None


def swapped(store, tries):
    """A row of events that shows harm by a deed that is done behind the next one, or None."""
    for first in store.deeds:
        for second in store.deeds:
            found = change_places(store, first, second)
            if found is not None:
                before, behind = found
                late = [send(first), send(second)] + [FAILS] * tries + [DONE, REPLAY]
                return in_order(before) + late + in_order(behind)
    return None


def skipped(store, tries):
    """A row of events that shows harm by a deed that comes too late to be done, or None."""
    for deed in store.deeds:
        found = left_out(store, deed)
        if found is not None:
            before, behind = found
            late = [send(deed)] + [FAILS] * tries + in_order(behind) + [REPLAY]
            return in_order(before) + late
    return None


def harm(store, plan):
    """A row of events with letters of one key that shows harm, or None."""
    if plan.way != "letter":
        # The letters of a key are done in order, and a deed that is done again follows itself.
        return None if plan.guards else repeated(store)
    if "stamp" in plan.guards:
        # The deeds are done in order, each at most once, the last one surely.
        return skipped(store, plan.tries)
    found = swapped(store, plan.tries)
    if found is None and "once" not in plan.guards:
        # Where all deeds change places, one that is done again may as well follow itself.
        return repeated(store)
    return found


def is_part(part, whole):
    """Whether all guards of one set are in another."""
    return all([guard in whole for guard in part])


def safe(store, way):
    """The least sets of guards with which the store can't come to harm by plans of a way."""
    found = []
    for guards in SETS:
        # Tries only tell how often a letter fails on its way to the shelf, so one number is enough.
        unharmed = harm(store, Plan(way, guards)) is None
        if unharmed and not any([is_part(part, guards) for part in found]):
            found.append(guards)
    return sorted(found)
