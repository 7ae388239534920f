"""Slow and plain searches through all short rows, to compare answers with."""

from tests.samples import HOWS, rows_of


def outlooks(store):
    """For each standing what is seen behind all rows that matter: alike ones have the same."""
    rows = list(rows_of(store))
    return {name: [store.look(store.lead(name, row)) for row in rows] for name in store.standings}


def reached(store, standing):
    """The standings to which rows of deeds lead one."""
    return sorted({store.lead(standing, row) for row in rows_of(store)})


def turns(store):
    """What all rows of at least one deed do: each as the tuple of where it leads the standings."""
    singles = [tuple(store.lead(name, [deed]) for name in store.standings) for deed in store.deeds]
    found = set(singles)
    waiting = list(found)
    while waiting:
        turn = waiting.pop()
        for single in singles:
            both = tuple(single[store.standings.index(name)] for name in turn)
            if both not in found:
                found.add(both)
                waiting.append(both)
    return [dict(zip(store.standings, turn)) for turn in found]


def after_send(store, state, key, deed):
    dones, dues, line, shelf, sent = state
    dues = {**dict(dues), key: store.lead(dict(dues)[key], [deed])}
    return dones, tuple(dues.items()), line + ((sent, key, deed, 0, False),), shelf, sent + 1


def after_deed(store, plan, dones, letter):
    """The standings and stamps behind a deed, and the letter behind it."""
    number, key, deed, failed, was_done = letter
    standing, stamp = dict(dones)[key]
    guarded = ("once" in plan.guards and was_done) or ("stamp" in plan.guards and stamp >= number)
    if guarded:
        return dones, letter
    dones = {**dict(dones), key: (store.lead(standing, [deed]), max(stamp, number))}
    return tuple(dones.items()), (number, key, deed, failed, True)


def after_work(store, plan, state, how):
    dones, dues, line, shelf, sent = state
    holding = {letter[1] for letter in shelf}
    free = [letter for letter in line if not (plan.way == "key" and letter[1] in holding)]
    if not free or (plan.way == "all" and shelf):
        return None
    at = line.index(free[0])
    if how == "fails":
        number, key, deed, failed, was_done = line[at]
        letter = (number, key, deed, failed + 1, was_done)
        if failed + 1 == plan.tries:
            return dones, dues, line[:at] + line[at + 1:], shelf + (letter,), sent
    else:
        dones, letter = after_deed(store, plan, dones, line[at])
    kept = () if how == "done" else (letter,)
    return dones, dues, line[:at] + kept + line[at + 1:], shelf, sent


def after_replay(store, plan, state, how):
    dones, dues, line, shelf, sent = state
    if not shelf:
        return None
    if how == "fails":
        return state
    dones, letter = after_deed(store, plan, dones, shelf[0])
    kept = () if how == "done" else (letter,)
    return dones, dues, line, kept + shelf[1:], sent


def harmed(store, state):
    dones, dues, line, shelf, _ = state
    if line or shelf:
        return False
    return any(store.look(dict(dones)[key][0]) != store.look(due) for key, due in dues)


def comes_to_harm(store, plan, keys, most):
    """Whether some row of events, however long, with at most so many letters of these keys shows harm."""
    start = store.standings[0]
    first = (tuple((key, (start, -1)) for key in keys), tuple((key, start) for key in keys), (), (), 0)
    found = {first}
    waiting = [first]
    while waiting:
        state = waiting.pop()
        if harmed(store, state):
            return True
        others = [after(store, plan, state, how) for after in (after_work, after_replay) for how in HOWS]
        if state[-1] < most:
            others += [after_send(store, state, key, deed) for key in keys for deed in store.deeds]
        for other in others:
            if other is not None and other not in found:
                found.add(other)
                waiting.append(other)
    return False
