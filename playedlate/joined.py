"""The store of couples for deeds that send further letters."""

from playedlate.errors import BadSends
from playedlate.stores import Store


def right_sends(first, second, value):
    """Whether any value is a dict from deeds of one store to deeds of another."""
    if not isinstance(value, dict):
        return False
    return all([deed in first.deeds and sent in second.deeds for deed, sent in value.items()])


def led_by(first, second, sends, couple, deed):
    """The couple to which a deed leads one."""
    one, other = couple
    row = [sends[deed]] if deed in sends else []
    return first.lead(one, [deed]), second.lead(other, row)


def couples_that_come(first, second, sends):
    """The couples that can come, as they come first, each with those to which the deeds lead it."""
    couples = {}
    waiting = [(first.standings[0], second.standings[0])]
    while waiting:
        couple = waiting.pop(0)
        if couple not in couples:
            couples[couple] = {deed: led_by(first, second, sends, couple, deed) for deed in first.deeds}
            waiting.extend(list(couples[couple].values()))
    return couples


def joined(first, second, sends):
    """The store of couples: each deed leads the first standing, and what it sends the second one."""
    if not right_sends(first, second, sends):
        raise BadSends(sends)
    couples = couples_that_come(first, second, sends)
    names = {couple: "".join(couple) for couple in couples}
    # Names that meet are still listed one by one here, and the store refuses them.
    deeds = {deed: {names[couple]: names[led[deed]] for couple, led in couples.items()} for deed in first.deeds}
    looks = {names[couple]: second.look(couple[1]) for couple in couples}
    return Store(list(names.values()), deeds, looks)
