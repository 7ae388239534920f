"""Stores and values that several tests use. Each call makes new ones."""

from playedlate import errors
from playedlate.stores import Store


def light():
    return Store(
        ["off", "on"],
        {"set": {"off": "on", "on": "on"}, "clear": {"off": "off", "on": "off"}},
        {"off": "dark", "on": "bright"},
    )


def three():
    """The store that the document calls round."""
    return Store(
        ("a", "b", "c"),
        {"next": {"a": "b", "b": "c", "c": "a"}},
        {"a": "x", "b": "x", "c": "y"},
    )


def smallest():
    """One standing, one deed, and names of one letter."""
    return Store(["s"], {"d": {"s": "s"}}, {"s": "l"})


def largest():
    """Five standings, four deeds, and names of eight letters among them."""
    standings = ["abcdefgh", "b", "c", "d", "zzzzzzzz"]
    step = dict(zip(standings, standings[1:] + standings[:1]))
    back = dict(zip(standings, standings[-1:] + standings[:-1]))
    stay = {standing: standing for standing in standings}
    home = {standing: "abcdefgh" for standing in standings}
    looks = dict(zip(standings, ["x", "x", "x", "x", "yyyyyyyy"]))
    deeds = {"stepstep": step, "back": back, "stay": stay, "home": home}
    return Store(standings, deeds, looks)


def nested(value, wrap):
    """The value in 30 wraps."""
    for _ in range(30):
        value = wrap(value)
    return value


def plain_values():
    """Numbers, words and the like of all kinds, none of them a name."""
    return [
        0, 1, -1, 10 ** 60 - 1, 1 - 10 ** 60, True, False, None,
        "", " ", "\n", "A", "Off", "off ", " off", "off\n", "o f", "a1", "1", "a_b", "a-b", "~", "`", "{",
        "abcdefghi", "a" * 100000,
    ]


def wrapped_values():
    """Lists, tuples, dicts and objects of all kinds, none of them a row of different names."""
    return [
        (), [], {}, {"off": "on"}, [None], (None, True), [1, 2, 3], ["off", 1], ("off", "off"),
        {1: 2, None: [], (1, 2): {}}, {True: "off"}, [["off"], {"set": "on"}],
        nested("off", lambda x: [x]), nested("off", lambda x: (x,)), nested("off", lambda x: {"off": x}),
        ["off"] * 100000, light(), [light()], {"off": light()},
        errors.LateError(), errors.NoDeed(0), errors.BadDeeds({"set": {}}), {errors.NoDeed(0): "off"},
    ]


def rows_of_names():
    """Lists and tuples that could be the standings of a store."""
    return [["off"], ("off",), ["off", "on"], light().standings, light().deeds, three().come()]


def wrong_values():
    """Any values of all kinds, none of them a name."""
    return plain_values() + wrapped_values() + rows_of_names()
