"""What counts as an event."""

from playedlate.names import is_name

HOWS = ("done", "stops", "fails")


def is_event(store, value):
    """Whether any value is an event of a store, possible or not."""
    if not isinstance(value, tuple):
        return False
    if len(value) == 3:
        word, key, deed = value
        return word == "send" and is_name(key) and deed in store.deeds
    if len(value) == 2:
        word, how = value
        return word in ("work", "replay") and how in HOWS
    return False
