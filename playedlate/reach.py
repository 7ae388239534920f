"""Which standings can come from one, and by which rows of deeds."""


def rows_from(store, standing):
    """For each standing that can come from one, a shortest row of deeds that leads to it."""
    rows = {standing: []}
    waiting = [standing]
    while waiting:
        place = waiting.pop(0)
        for deed in store.deeds:
            behind = store.lead(place, [deed])
            if behind not in rows:
                rows[behind] = rows[place] + [deed]
                waiting.append(behind)
    return rows
