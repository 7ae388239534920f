"""Rows of events as texts, with a line for each event."""

from playedlate.errors import BadText
from playedlate.events import is_event


def row_text(row):
    """The text of a row of events."""
    return "\n".join([" ".join(event) for event in row])


def read_row(store, text):
    """The row of events with a text."""
    if not isinstance(text, str):
        raise BadText(1)
    # Cut into lines, the empty text would be one empty line.
    if text == "":
        return []
    row = []
    for number, line in enumerate(text.split("\n"), start=1):
        event = tuple(line.split(" "))
        if not is_event(store, event):
            raise BadText(number)
        row.append(event)
    return row
