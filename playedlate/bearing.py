"""What deeds bear: changing places, being done twice, done again, left out."""

from playedlate.errors import NoDeed
from playedlate.likeness import parting
from playedlate.reach import rows_from


def check_deeds(store, values):
    """Raises NoDeed with the position of the first value that is not a deed."""
    for position, deed in enumerate(values):
        if deed not in store.deeds:
            raise NoDeed(position)


def rows_that_part(store, one, other):
    """Rows (u, w) so that behind u, one, w and behind u, other, w something else is seen, or None."""
    for standing, row in rows_from(store, store.standings[0]).items():
        apart = parting(store, store.lead(standing, one), store.lead(standing, other))
        if apart is not None:
            return row, apart
    return None


def change_places(store, first, second):
    """Rows (u, w) that show that two deeds do not change places, or None."""
    check_deeds(store, [first, second])
    return rows_that_part(store, [first, second], [second, first])


def twice(store, deed):
    """Rows (u, w) that show that a deed cannot be done twice, or None."""
    check_deeds(store, [deed])
    return rows_that_part(store, [deed], [deed, deed])


def again(store, deed):
    """Rows (u, v, w) that show that a deed cannot be done again, or None."""
    check_deeds(store, [deed])
    for standing, before in rows_from(store, store.standings[0]).items():
        for later, between in rows_from(store, store.lead(standing, [deed])).items():
            apart = parting(store, later, store.lead(later, [deed]))
            if apart is not None:
                return before, between, apart
    return None


def left_out(store, deed):
    """Rows (u, v) that show that a deed cannot be left out, or None."""
    check_deeds(store, [deed])
    # The row v has at least one deed, so each one is tried as its first.
    for first in store.deeds:
        found = rows_that_part(store, [deed, first], [first])
        if found is not None:
            before, apart = found
            return before, [first] + apart
    return None
