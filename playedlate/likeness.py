"""Which standings of a store are alike, and what tells the others apart."""

from playedlate.reach import row_where


def parting(store, first, second):
    """A shortest row of deeds behind which two standings look different, or None."""
    # Asked for ahead of all else, so that the first wrong standing is the one named.
    store.look(first)
    store.look(second)
    return row_where(store, first, second, lambda left, right: store.look(left) != store.look(right))


def alike(store, first, second):
    """Whether two standings look the same behind each row of deeds."""
    return parting(store, first, second) is None


def classes(store):
    """The standings in lists of those that are alike."""
    groups = {}
    for standing in store.standings:
        group = [other for other in store.standings if alike(store, other, standing)]
        # Each standing of a group finds the same group, which is kept once.
        groups[group[0]] = group
    return list(groups.values())
