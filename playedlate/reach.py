"""Which standings can come from others, and by which rows of deeds."""


def rows_from(store, standing):
    """For each standing that can come from one, a shortest row of deeds that leads to it."""
    rows = {standing: []}
    waiting = [standing]
    while waiting:
        place = waiting.pop(0)
        for deed in store.deeds:
            behind = store.lead(place, [deed])
            if behind not in rows:
                rows[behind] = rows[place] + [deed]
                waiting.append(behind)
    return rows


def row_where(store, first, second, wanted):
    """A shortest row that leads two standings to such as are wanted together, or None."""
    rows = {(first, second): []}
    waiting = [(first, second)]
    while waiting:
        left, right = waiting.pop(0)
        row = rows[(left, right)]
        if wanted(left, right):
            return row
        for deed in store.deeds:
            behind = (store.lead(left, [deed]), store.lead(right, [deed]))
            if behind not in rows:
                rows[behind] = row + [deed]
                waiting.append(behind)
    return None
