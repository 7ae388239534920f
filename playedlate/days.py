"""Whether whole rows of deeds can be played a second time, at once or later."""

from playedlate.likeness import classes, parting
from playedlate.reach import row_where, rows_from


def played_again(store, between):
    """Rows (u, v, x, w) so that something else is seen behind u, v, x, w and u, v, x, v, w, or None.

    The row x is one of between: for each standing behind u, v it has those that may come next,
    each with its row.
    """
    groups = {standing: at for at, group in enumerate(classes(store)) for standing in group}
    for place, before in rows_from(store, store.standings[0]).items():
        for later in store.come():
            # The row v leads two standings at once: that behind u, and that behind u, v, x. It is
            # never empty, as from there on both would be one.
            row = row_where(
                store, place, later, lambda left, right: later in between[left] and groups[right] != groups[later]
            )
            if row is not None:
                apart = parting(store, later, store.lead(later, row))
                return before, row, between[store.lead(place, row)][later], apart
    return None


def day(store):
    """Rows (u, v, w) that show that not each row can be played a second time as a whole, or None."""
    found = played_again(store, {standing: {standing: []} for standing in store.standings})
    if found is None:
        return None
    before, row, _, apart = found
    return before, row, apart


def since(store):
    """Rows (u, v, x, w) that show that not each row can be played again later, or None."""
    return played_again(store, {standing: rows_from(store, standing) for standing in store.standings})
