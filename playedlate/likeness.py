"""Which standings of a store are alike, and what tells the others apart."""


def parting(store, first, second):
    """A shortest row of deeds behind which two standings look different, or None."""
    # Asked for ahead of all else, so that the first wrong standing is the one named.
    store.look(first)
    store.look(second)
    rows = {(first, second): []}
    waiting = [(first, second)]
    while waiting:
        left, right = waiting.pop(0)
        row = rows[(left, right)]
        if store.look(left) != store.look(right):
            return row
        for deed in store.deeds:
            behind = (store.lead(left, [deed]), store.lead(right, [deed]))
            if behind not in rows:
                rows[behind] = row + [deed]
                waiting.append(behind)
    return None


def alike(store, first, second):
    """Whether two standings look the same behind each row of deeds."""
    return parting(store, first, second) is None


def classes(store):
    """The standings in lists of those that are alike."""
    groups = {}
    for standing in store.standings:
        group = [other for other in store.standings if alike(store, other, standing)]
        # Each standing of a group finds the same group, which is kept once.
        groups[group[0]] = group
    return list(groups.values())
