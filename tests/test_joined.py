"""Points [1] to [3]: the store of couples for deeds that send further letters."""

import itertools
import random

from playedlate import joined as joined_file
from playedlate.errors import BadSends, BadStandings
from playedlate.joined import joined
from playedlate.likeness import classes, parting
from playedlate.stores import Store
from tests.cases import Case
from tests.samples import flag, largest, light, rows_of, smallest, three, wrong_values


def loop(standings, deed):
    """A store with one deed that leads each standing to the next one, and the last one to the start."""
    standings = list(standings)
    step = dict(zip(standings, standings[1:] + standings[:1]))
    return Store(standings, {deed: step}, {name: name for name in standings})


def pairs(dice):
    """Two stores by chance, with names of one letter, and what the deeds of the first one send."""
    stores = []
    for names, words in [("abc", "pqr"), ("uvw", "xyz")]:
        names = names[:dice.randint(1, 3)]
        deeds = {deed: {name: dice.choice(names) for name in names} for deed in words[:dice.randint(1, 3)]}
        stores.append(Store(list(names), deeds, {name: dice.choice(["dark", "bright"]) for name in names}))
    first, second = stores
    sends = {deed: dice.choice(second.deeds) for deed in first.deeds if dice.randint(0, 3)}
    return first, second, sends


def couple_behind(first, second, sends, row):
    """The couple behind a row of deeds from the start."""
    sent = [sends[deed] for deed in row if deed in sends]
    return first.lead(first.standings[0], row), second.lead(second.standings[0], sent)


def names_by_rows(first, second, sends):
    """The names of the couples as they come first behind rows, the shortest rows first."""
    found = {}
    waiting = [[]]
    while waiting:
        row = waiting.pop(0)
        couple = couple_behind(first, second, sends, row)
        if couple not in found:
            found[couple] = row
            waiting += [row + [deed] for deed in first.deeds]
    return [one + other for one, other in found]


class ExamplesTest(Case):
    def test_examples(self):
        lamp = joined(three(), light(), {"next": "set"})
        self.assertEqual(lamp.standings, ("aoff", "bon", "con", "aon"))
        self.assertEqual(lamp.look("bon"), "bright")
        self.assertEqual(lamp.lead("aoff", ["next", "next", "next"]), "aon")
        sends = {"next": "next"}
        self.assertIs(self.raised(BadSends, joined, three(), light(), sends).value, sends)


class InterfaceTest(Case):
    def test_the_function_is_defined_in_its_file(self):
        self.check_functions(joined_file, ["joined"])

    def test_arguments_by_name(self):
        lamp = joined(sends={"next": "set"}, second=light(), first=three())
        self.assertEqual(lamp, joined(three(), light(), {"next": "set"}))

    def test_it_is_a_store(self):
        self.assertIs(type(joined(three(), light(), {"next": "set"})), Store)
        self.assertEqual(joined(smallest(), smallest(), {"d": "d"}), Store(["ss"], {"d": {"ss": "ss"}}, {"ss": "l"}))


class CouplesTest(Case):
    def check_joined(self, first, second, sends):
        """Checks the store, or that its names are refused; returns whether there is a store."""
        names = names_by_rows(first, second, sends)
        if len(names) > 5:
            self.assertEqual(self.raised(BadStandings, joined, first, second, sends).value, names)
            return False
        store = joined(first, second, sends)
        self.assertEqual((store.standings, store.deeds), (tuple(names), first.deeds))
        for row in rows_of(store):
            one, other = couple_behind(first, second, sends, row)
            standing = store.lead(store.standings[0], row)
            self.assertEqual((standing, store.look(standing)), (one + other, second.look(other)))
        self.assertEqual(store.come(), names)
        return True

    def test_couples_by_chance(self):
        dice = random.Random(31)
        found = [self.check_joined(*pairs(dice)) for _ in range(600)]
        self.assertGreater(found.count(True), 100)
        self.assertGreater(found.count(False), 20)

    def test_the_sequence_is_by_standing_and_then_by_deed(self):
        leads = {"p": {"a": "c", "b": "b", "c": "a"}, "q": {"a": "b", "b": "a", "c": "c"}}
        first = Store(list("abc"), leads, dict.fromkeys("abc", "x"))
        store = joined(first, light(), {"q": "set"})
        self.assertEqual(store.standings, ("aoff", "coff", "bon", "con", "aon"))
        self.assertIs(self.check_joined(first, light(), {"q": "set"}), True)

    def test_the_deeds_are_in_the_sequence_of_the_first_store(self):
        for sends in [{"set": "mark", "clear": "mark"}, {"clear": "mark", "set": "mark"}]:
            store = joined(light(), flag(), sends)
            self.assertEqual(store.deeds, ("set", "clear"))
            self.assertEqual(store.standings, ("offno", "onyes", "offyes"))

    def test_deeds_that_send_nothing(self):
        store = joined(three(), light(), {})
        self.assertEqual(store.standings, ("aoff", "boff", "coff"))
        self.assertEqual([store.look(name) for name in store.standings], ["dark"] * 3)
        self.assertEqual(classes(store), [["aoff", "boff", "coff"]])
        store = joined(light(), light(), {"clear": "set"})
        self.assertEqual(store.standings, ("offoff", "onoff", "offon", "onon"))
        self.assertEqual(parting(store, "offoff", "offon"), [])

    def test_a_store_with_itself(self):
        store = joined(light(), light(), {"set": "set", "clear": "clear"})
        self.assertEqual(store.standings, ("offoff", "onon"))
        self.assertIs(self.check_joined(three(), three(), {"next": "next"}), True)

    def test_a_store_that_was_joined(self):
        lamp = joined(three(), light(), {"next": "set"})
        store = joined(lamp, flag(), {"next": "mark"})
        self.assertEqual(store.standings, ("aoffno", "bonyes", "conyes", "aonyes"))
        self.assertEqual([store.look(name) for name in store.standings], ["x", "y", "y", "y"])
        self.assertIs(self.check_joined(flag(), lamp, {"mark": "next"}), True)

    def test_couples_that_cannot_come_do_not_count(self):
        stay = Store(["a", "longlong"], {"go": {"a": "a", "longlong": "a"}}, {"a": "x", "longlong": "x"})
        self.assertEqual(joined(stay, light(), {"go": "set"}).standings, ("aoff", "aon"))
        # Of the couples of a and ab with bc and c, those that meet do not come.
        self.assertEqual(joined(loop(["a", "ab"], "go"), loop(["bc", "c"], "on"), {}).standings, ("abc", "abbc"))


class WrongNamesTest(Case):
    def refused(self, names, *args):
        value = self.raised(BadStandings, joined, *args).value
        self.assertEqual(value, names)
        self.assertIs(type(value), list)

    def test_five_couples_and_six(self):
        self.assertEqual(joined(loop("abcde", "go"), smallest(), {"go": "d"}).standings, ("as", "bs", "cs", "ds", "es"))
        self.refused(["au", "bv", "cu", "av", "bu", "cv"], loop("abc", "go"), loop("uv", "on"), {"go": "on"})

    def test_up_to_twenty_couples(self):
        names = [one + other for one, other in zip("abcde" * 4, "uvwx" * 5)]
        self.refused(names, loop("abcde", "go"), loop("uvwx", "on"), {"go": "on"})

    def test_eight_letters_and_nine(self):
        store = joined(loop(["abcd"], "go"), loop(["efgh"], "on"), {"go": "on"})
        self.assertEqual(store.standings, ("abcdefgh",))
        self.refused(["abcdefghi"], loop(["abcd"], "go"), loop(["efghi"], "on"), {"go": "on"})
        self.refused(["sabcdefgh"], smallest(), largest(), {"d": "stay"})
        self.refused(["au", "longlongu"], loop(["a", "longlong"], "go"), loop("u", "on"), {"go": "on"})

    def test_names_that_meet(self):
        first, second = loop(["a", "ab"], "go"), loop(["bc", "c"], "on")
        self.refused(["abc", "abc"], first, second, {"go": "on"})
        leads = {"q": "c", "c": "bc", "bc": "bc"}
        second = Store(list(leads), {"on": leads}, dict.fromkeys(leads, "x"))
        self.refused(["aq", "abc", "abc", "abbc"], first, second, {"go": "on"})


class WrongSendsTest(Case):
    def refused(self, value, first, second):
        self.assertIs(self.raised(BadSends, joined, first, second, value).value, value)

    def test_other_kinds(self):
        for value in wrong_values() + ["next", "set", ["next"], ("next", "set"), [("next", "set")], [{"next": "set"}]]:
            # Nothing needs to be sent.
            if value != {}:
                self.refused(value, three(), light())

    def test_keys_that_are_no_deeds_of_the_first_store(self):
        for value in wrong_values() + ["set", "nex", "a", "off", ("next",)]:
            try:
                hash(value)
            except TypeError:
                continue
            self.refused({value: "set"}, three(), light())
            self.refused({"next": "set", value: "clear"}, three(), light())

    def test_values_that_are_no_deeds_of_the_second_store(self):
        for value in wrong_values() + ["next", "se", "off", "dark", ["set"], ("set", "clear"), {"set": "set"}]:
            self.refused({"next": value}, three(), light())
            self.refused({"set": "next", "clear": value}, light(), light())
            self.refused({"clear": "set", "set": value}, light(), light())

    def test_wrong_sends_ahead_of_wrong_names(self):
        stores = loop("abc", "go"), loop("uv", "on")
        for value in [{"go": "go"}, {"on": "on"}, {"go": None}, None, [], "go", {"go": "on", None: "on"}]:
            self.refused(value, *stores)
        self.raised(BadStandings, joined, *stores, {"go": "on"})


class NothingChangesTest(Case):
    def test_arguments_are_not_changed(self):
        first, second, sends = three(), light(), {"next": "set"}
        joined(first, second, sends)
        self.assertEqual((first, second, sends), (three(), light(), {"next": "set"}))
        wrong = {"next": ["set", {"next": "set"}]}
        self.raised(BadSends, joined, first, second, wrong)
        self.assertEqual(wrong, {"next": ["set", {"next": "set"}]})
        self.assertEqual((first, second), (three(), light()))

    def test_what_was_sent_may_be_changed_afterwards(self):
        sends = {"next": "set"}
        lamp = joined(three(), light(), sends)
        sends["next"] = "clear"
        sends.clear()
        self.assertEqual(lamp, joined(three(), light(), {"next": "set"}))
        self.assertEqual(lamp.lead("aoff", ["next"]), "bon")

    def test_the_list_of_names_may_be_changed_afterwards(self):
        args = loop(["a", "ab"], "go"), loop(["bc", "c"], "on"), {"go": "on"}
        self.raised(BadStandings, joined, *args).value.append("else")
        self.assertEqual(self.raised(BadStandings, joined, *args).value, ["abc", "abc"])
