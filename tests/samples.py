"""Stores and values that several tests use. Each call makes new ones."""

import itertools
import random

from playedlate import errors
from playedlate.plans import Plan
from playedlate.shelves import Shelf
from playedlate.stores import Store

# Five standings that look different behind some row do so behind one of four deeds or fewer.
LONGEST_ROW = 4
HOWS = ("done", "stops", "fails")


def light():
    return Store(
        ["off", "on"],
        {"set": {"off": "on", "on": "on"}, "clear": {"off": "off", "on": "off"}},
        {"off": "dark", "on": "bright"},
    )


def three():
    """The store that the document calls round."""
    return Store(
        ("a", "b", "c"),
        {"next": {"a": "b", "b": "c", "c": "a"}},
        {"a": "x", "b": "x", "c": "y"},
    )


def smallest():
    """One standing, one deed, and names of one letter."""
    return Store(["s"], {"d": {"s": "s"}}, {"s": "l"})


def largest():
    """Five standings, four deeds, and names of eight letters among them."""
    standings = ["abcdefgh", "b", "c", "d", "zzzzzzzz"]
    step = dict(zip(standings, standings[1:] + standings[:1]))
    back = dict(zip(standings, standings[-1:] + standings[:-1]))
    stay = {standing: standing for standing in standings}
    home = {standing: "abcdefgh" for standing in standings}
    looks = dict(zip(standings, ["x", "x", "x", "x", "yyyyyyyy"]))
    deeds = {"stepstep": step, "back": back, "stay": stay, "home": home}
    return Store(standings, deeds, looks)


def flag():
    """Two standings that look different, and a deed that changes nothing the second time."""
    return Store(["no", "yes"], {"mark": {"no": "yes", "yes": "yes"}}, {"no": "x", "yes": "y"})


def first_wins():
    """Deeds that nothing changes once one of them was done, which do not change places."""
    stay = {"l": "l", "r": "r"}
    return Store(
        ["o", "l", "r"],
        {"left": {"o": "l", **stay}, "right": {"o": "r", **stay}},
        {"o": "none", "l": "left", "r": "right"},
    )


def hidden():
    """A deed, to turn, that does nothing ahead of the first open, and is seen only behind the first close."""
    ended = {"d": "d", "e": "e"}
    deeds = {
        "turn": {"a": "a", "b": "c", "c": "b", **ended},
        "open": {"a": "b", "b": "b", "c": "c", **ended},
        "close": {"a": "a", "b": "d", "c": "e", **ended},
    }
    return Store(list("abcde"), deeds, {"a": "x", "b": "x", "c": "x", "d": "x", "e": "y"})


def small_stores():
    """All stores of three standings with one deed and two looks."""
    names = "abc"
    for leads in itertools.product(names, repeat=3):
        for looks in itertools.product("xy", repeat=3):
            yield Store(list(names), {"go": dict(zip(names, leads))}, dict(zip(names, looks)))


def two_deeds():
    """All stores of two standings that look different, with two deeds."""
    for leads in itertools.product("ab", repeat=4):
        deeds = {"p": dict(zip("ab", leads[:2])), "q": dict(zip("ab", leads[2:]))}
        yield Store(["a", "b"], deeds, {"a": "x", "b": "y"})


def mixed_stores():
    """Stores of all sizes, the same ones in each run."""
    dice = random.Random(7)
    for _ in range(150):
        names = list("edcba")[:dice.randint(1, 5)]
        deeds = {
            deed: {name: dice.choice(names) for name in names}
            for deed in "pqrs"[:dice.randint(1, 4)]
        }
        yield Store(names, deeds, {name: dice.choice("xxxy") for name in names})


def rows_of(store):
    """All rows of deeds that matter, the shortest first."""
    for many in range(LONGEST_ROW + 1):
        for row in itertools.product(store.deeds, repeat=many):
            yield list(row)


def all_plans():
    """A plan of each way, each set of guards and each number of tries."""
    guards = [(), ("once",), ("stamp",), ("once", "stamp")]
    for way, some, tries in itertools.product(["letter", "key", "all"], guards, [1, 2, 3]):
        yield Plan(way, some, tries=tries)


def late():
    """The row of events of the document: what was set late stays set."""
    return [("send", "k", "set"), ("send", "k", "clear"), ("work", "fails"), ("work", "done"), ("replay", "done")]


def no_events():
    """Values that look like events of the store light, and are none."""
    return [
        ["send", "k", "set"], ["work", "done"], ("work", ("done",)), (("work", "done"),), [("work", "done")],
        "work done", "work", ("work",), ("replay",), ("done", "work"), ("work", "done", "done"), ("send",),
        ("send", "k"), ("send", "set"), ("send", "k", "set", "set"), ("send", "set", "k"), ("send", "k", "next"),
        ("send", "k", "off"), ("send", "k", "se"), ("send", "k", ""), ("send", "k", None), ("send", "k", ["set"]),
        ("sent", "k", "set"), ("work", "k", "set"), ("replay", "k", "set"), (None, "k", "set"), (["send"], "k", "set"),
        ("send", "", "set"), ("send", "K", "set"), ("send", "abcdefghi", "set"), ("send", "k1", "set"),
        ("send", "k\n", "set"), ("send", None, "set"), ("send", 0, "set"), ("send", ["k"], "set"),
        ("send", ("k",), "set"), ("send", {}, "set"), ("send", light(), "set"), ("send", "k", light()),
        ("work", "fail"), ("work", "Done"), ("work", "done "), ("work", ""), ("work", None), ("work", 0),
        ("work", True), ("work", ["done"]), ("work", {}), ("work", light()), ("play", "done"), ("Work", "done"),
        ("", "done"), (None, "done"), (["work"], "done"), ({}, {}), (light(), "done"), (True, "done"),
        {"work": "done"}, {"send": "k", "k": "set"}, ("work", "done", None), (None, None, None),
    ]


def nested(value, wrap):
    """The value in 30 wraps."""
    for _ in range(30):
        value = wrap(value)
    return value


def plain_values():
    """Numbers, words and the like of all kinds, none of them a name."""
    return [
        0, 1, -1, 10 ** 60 - 1, 1 - 10 ** 60, True, False, None,
        "", " ", "\n", "A", "Off", "off ", " off", "off\n", "o f", "a1", "1", "a_b", "a-b", "~", "`", "{",
        "abcdefghi", "a" * 100000,
    ]


def wrapped_values():
    """Lists, tuples, dicts and objects of all kinds, none of them a row of different names."""
    shelf = Shelf(light(), Plan("key"))
    shelf.do(("send", "off", "set"))
    return [
        (), [], {}, {"off": "on"}, [None], (None, True), [1, 2, 3], ["off", 1], ("off", "off"),
        {1: 2, None: [], (1, 2): {}}, {True: "off"}, [["off"], {"set": "on"}],
        nested("off", lambda x: [x]), nested("off", lambda x: (x,)), nested("off", lambda x: {"off": x}),
        ["off"] * 100000, light(), [light()], {"off": light()},
        Plan("all"), (Plan("letter", ["once"], tries=2),), shelf, [shelf, shelf.fork()], shelf.letter(0) * 2,
        errors.LateError(), errors.NoDeed(0), errors.BadDeeds({"set": {}}), {errors.NoDeed(0): "off"},
    ]


def rows_of_names():
    """Lists and tuples that could be the standings of a store."""
    return [["off"], ("off",), ["off", "on"], light().standings, light().deeds, three().come()]


def wrong_values():
    """Any values of all kinds, none of them a name."""
    return plain_values() + wrapped_values() + rows_of_names()
