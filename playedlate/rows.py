"""Rows of events: what they lead to, and whether they show harm."""

from playedlate.errors import BadEvent, NotNow
from playedlate.shelves import Shelf


def step(shelf, event, position):
    """Lets an event of a row happen."""
    try:
        shelf.do(event)
    except NotNow:
        raise BadEvent(position) from None


def run(store, plan, row):
    """The shelf behind a row of events."""
    shelf = Shelf(store, plan)
    for position, event in enumerate(row):
        step(shelf, event, position)
    return shelf


def shows(store, plan, value):
    """Whether any value is a list that is a row of events that shows harm."""
    if not isinstance(value, list):
        return False
    try:
        shelf = run(store, plan, value)
    except BadEvent:
        return False
    keys = {event[1]: True for event in value if event[0] == "send"}
    return shelf.quiet and any([store.look(shelf.standing(key)) != store.look(shelf.due(key)) for key in keys])


def waits(store, plan, row):
    """The number of the events behind which some letter in the line is held."""
    shelf = Shelf(store, plan)
    held = 0
    for position, event in enumerate(row):
        step(shelf, event, position)
        if shelf.holds():
            held += 1
    return held
