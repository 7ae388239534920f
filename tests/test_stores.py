"""Points [1] and [2]: stores, what they take, what they tell and what they raise."""

import copy
import itertools
import unittest

from playedlate.errors import BadDeeds, BadLooks, BadStandings, NoDeed, NoStanding
from playedlate.stores import Store
from tests.cases import Case
from tests.samples import largest, light, plain_values, smallest, three, wrapped_values, wrong_values

STANDINGS = ["off", "on"]
DEEDS = {"set": {"off": "on", "on": "on"}, "clear": {"off": "off", "on": "off"}}
LOOKS = {"off": "dark", "on": "bright"}


class ExamplesTest(Case):
    def test_examples(self):
        self.assertEqual(light().standings, ("off", "on"))
        self.assertEqual(light().deeds, ("set", "clear"))
        self.assertEqual(light().look("on"), "bright")
        self.assertEqual(light().lead("off", ["set", "clear", "set"]), "on")
        self.assertEqual(three().lead("b", []), "b")
        self.assertEqual(three().come(), ["a", "b", "c"])

    def test_example_of_an_error(self):
        self.assertEqual(self.raised(NoDeed, light().lead, "off", ["set", "next"]).position, 1)


class InterfaceTest(Case):
    def test_the_class_defines_what_is_listed(self):
        methods = ["__init__", "__eq__", "look", "lead", "come"]
        self.check_class(Store, "playedlate.stores", methods, ["standings", "deeds"])

    def test_arguments_by_name(self):
        store = Store(looks=LOOKS, deeds=DEEDS, standings=STANDINGS)
        self.assertEqual(store, light())
        self.assertEqual(store.look(standing="off"), "dark")
        self.assertEqual(store.lead(row=["set"], standing="off"), "on")

    def test_properties_are_not_assigned(self):
        store = light()
        with self.assertRaises(AttributeError):
            store.standings = ("on", "off")
        with self.assertRaises(AttributeError):
            store.deeds = ("clear",)


class StandingsTest(Case):
    def refused(self, value, deeds=DEEDS, looks=LOOKS):
        self.assertIs(self.raised(BadStandings, Store, value, deeds, looks).value, value)

    def test_one_and_five(self):
        self.assertEqual(smallest().standings, ("s",))
        self.assertEqual(largest().standings, ("abcdefgh", "b", "c", "d", "zzzzzzzz"))

    def test_none_and_six(self):
        for kind in (list, tuple):
            self.refused(kind())
            six = kind("abcdef")
            stay = {name: name for name in six}
            self.refused(six, {"stay": stay}, stay)

    def test_a_tuple_is_as_good_as_a_list(self):
        self.assertEqual(Store(tuple(STANDINGS), DEEDS, LOOKS), light())
        self.assertEqual(type(Store(STANDINGS, DEEDS, LOOKS).standings), tuple)

    def test_the_first_one_is_the_start(self):
        store = Store(["on", "off"], {"set": DEEDS["set"]}, LOOKS)
        self.assertEqual(store.come(), ["on"])

    def test_twice_the_same(self):
        self.refused(["off", "on", "off"])
        self.refused(("off", "off"))

    def test_other_kinds(self):
        for value in plain_values() + wrapped_values():
            self.refused(value)
        for value in ["off", "ab", {"off": 1, "on": 2}, {"off": "on", "on": "off"}]:
            self.refused(value)

    def test_entries_that_are_no_names(self):
        for value in wrong_values():
            self.refused([value])
            self.refused(("off", value))
            self.refused([value, "on"])

    def test_names_of_eight_letters_and_of_nine(self):
        for name in ["a", "z", "az", "abcdefgh", "zzzzzzzz"]:
            store = Store([name], {name: {name: name}}, {name: name})
            self.assertEqual((store.standings, store.deeds, store.look(name)), ((name,), (name,), name))
        self.refused(["abcdefghi"], {"go": {"abcdefghi": "abcdefghi"}}, {"abcdefghi": "x"})


class DeedsTest(Case):
    def refused(self, value, looks=LOOKS):
        self.assertIs(self.raised(BadDeeds, Store, STANDINGS, value, looks).value, value)

    def test_one_and_four(self):
        self.assertEqual(smallest().deeds, ("d",))
        self.assertEqual(largest().deeds, ("stepstep", "back", "stay", "home"))

    def test_none_and_five(self):
        self.refused({})
        self.refused({name: DEEDS["set"] for name in "abcde"})

    def test_other_kinds(self):
        for value in wrong_values() + [list(DEEDS.items()), tuple(DEEDS), "set"]:
            self.refused(value)

    def test_keys_that_are_no_names(self):
        for value in wrong_values():
            try:
                hash(value)
            except TypeError:
                continue
            self.refused({value: DEEDS["set"]})
            self.refused({"set": DEEDS["set"], value: DEEDS["clear"]})

    def test_deeds_that_are_no_dicts_from_all_standings(self):
        wrong = [{"off": "on"}, {"on": "on"}, {"off": "on", "on": "on", "else": "on"}, {"off": "on", "else": "on"}]
        wrong += [{"off": "on", 1: "on"}, {"off": "on", ("on",): "on"}, {"off": "on", "on": "on", None: "on"}]
        wrong += [["off", "on"], "on", (("off", "on"), ("on", "on"))]
        for value in wrong_values() + wrong:
            self.refused({"set": value})
            self.refused({"set": DEEDS["set"], "clear": value})

    def test_deeds_that_do_not_lead_to_standings(self):
        for value in wrong_values() + ["else", "o", "dark", "set", ["on"], ("off", "on")]:
            self.refused({"set": {"off": value, "on": "on"}})
            self.refused({"set": DEEDS["set"], "clear": {"off": "off", "on": value}})


class LooksTest(Case):
    def refused(self, value):
        self.assertIs(self.raised(BadLooks, Store, STANDINGS, DEEDS, value).value, value)

    def test_other_kinds(self):
        for value in wrong_values() + [["dark", "bright"], "dark", list(LOOKS.items())]:
            self.refused(value)

    def test_keys_that_are_not_all_standings(self):
        self.refused({"off": "dark"})
        self.refused({"off": "dark", "else": "bright"})
        self.refused({"off": "dark", "on": "bright", "else": "bright"})
        self.refused({"off": "dark", "on": "bright", None: "bright"})
        self.refused({"off": "dark", ("on",): "bright"})

    def test_what_is_seen_is_a_name(self):
        for value in wrong_values():
            self.refused({"off": value, "on": "bright"})
            self.refused({"off": "dark", "on": value})
        for name in ["a", "abcdefgh", "off", "set"]:
            self.assertEqual(Store(STANDINGS, DEEDS, {"off": name, "on": name}).look("on"), name)


class SequenceOfErrorsTest(Case):
    def test_the_one_named_first_is_raised(self):
        for bad in itertools.product([False, True], repeat=3):
            args = [None if wrong else right for wrong, right in zip(bad, [STANDINGS, DEEDS, LOOKS])]
            wanted = [error for wrong, error in zip(bad, [BadStandings, BadDeeds, BadLooks]) if wrong]
            if wanted:
                self.raised(wanted[0], Store, *args)
            else:
                self.assertEqual(Store(*args), light())

    def test_no_standing_ahead_of_no_deed(self):
        self.assertEqual(self.raised(NoStanding, light().lead, "else", ["next"]).value, "else")
        self.assertEqual(self.raised(NoStanding, light().lead, None, [None]).value, None)


class LookAndLeadTest(Case):
    def test_each_standing_is_seen(self):
        self.assertEqual([three().look(name) for name in "abc"], ["x", "x", "y"])

    def test_the_empty_row_leads_nowhere_else(self):
        for store in [light(), three(), smallest(), largest()]:
            for standing in store.standings:
                self.assertEqual(store.lead(standing, []), standing)

    def test_rows_are_led_deed_by_deed(self):
        self.assertEqual([three().lead("b", ["next"] * many) for many in range(5)], list("bcabc"))
        self.assertEqual(three().lead("a", ["next"] * 100001), "c")
        self.assertEqual(largest().lead("b", ["home", "back", "stay"]), "zzzzzzzz")

    def test_values_that_are_no_standings(self):
        for value in wrong_values() + ["else", "o", "dark", "set", "ono"]:
            self.assertIs(self.raised(NoStanding, light().look, value).value, value)
            self.assertIs(self.raised(NoStanding, light().lead, value, []).value, value)
            self.assertIs(self.raised(NoStanding, light().lead, value, ["set"]).value, value)

    def test_entries_that_are_no_deeds(self):
        for value in wrong_values() + ["next", "off", "dark", "se"]:
            for before in range(4):
                row = ["set", "clear", "set"][:before] + [value, "set", None]
                position = self.raised(NoDeed, light().lead, "on", row).position
                self.assertEqual((type(position), position), (int, before))


class ComeTest(Case):
    def test_all_and_the_start_alone(self):
        self.assertEqual(light().come(), ["off", "on"])
        self.assertEqual(largest().come(), list(largest().standings))
        self.assertEqual(smallest().come(), ["s"])

    def test_in_the_sequence_of_the_store(self):
        leads = {"a": "e", "b": "b", "c": "a", "d": "d", "e": "c"}
        store = Store(list("abcde"), {"go": leads}, dict.fromkeys("abcde", "x"))
        self.assertEqual(store.come(), ["a", "c", "e"])

    def test_against_all_rows(self):
        names = "abcd"
        for one in itertools.product(names, repeat=4):
            deeds = {"p": dict(zip(names, one)), "q": dict(zip(names, one[1:] + one[:1]))}
            store = Store(list(names), deeds, dict.fromkeys(names, "x"))
            rows = [row for many in range(4) for row in itertools.product("pq", repeat=many)]
            reached = {store.lead("a", list(row)) for row in rows}
            self.assertEqual(store.come(), sorted(reached))


class EqualTest(Case):
    def test_the_same_and_a_copy(self):
        store = light()
        self.assertIs(store == store, True)
        self.assertIs(store == light(), True)
        self.assertIs(store != light(), False)
        self.assertIs(largest() == largest(), True)

    def test_the_sequence_within_leads_and_looks_does_not_matter(self):
        deeds = {"set": {"on": "on", "off": "on"}, "clear": {"on": "off", "off": "off"}}
        self.assertIs(Store(STANDINGS, deeds, {"on": "bright", "off": "dark"}) == light(), True)

    def test_other_stores(self):
        reversed_deeds = {"clear": DEEDS["clear"], "set": DEEDS["set"]}
        others = [
            Store(["on", "off"], DEEDS, LOOKS),
            Store(STANDINGS, reversed_deeds, LOOKS),
            Store(STANDINGS, {"set": DEEDS["set"]}, LOOKS),
            Store(STANDINGS, {"set": DEEDS["set"], "wipe": DEEDS["clear"]}, LOOKS),
            Store(STANDINGS, {"set": DEEDS["set"], "clear": {"off": "on", "on": "off"}}, LOOKS),
            Store(STANDINGS, {"set": DEEDS["clear"], "clear": DEEDS["set"]}, LOOKS),
            Store(STANDINGS, DEEDS, {"off": "dark", "on": "dark"}),
            three(), smallest(), largest(),
        ]
        for first, second in itertools.combinations([light()] + others, 2):
            self.assertIs(first == second, False)
            self.assertIs(second == first, False)
            self.assertIs(first != second, True)

    def test_other_values(self):
        for value in wrong_values() + ["off", STANDINGS, DEEDS, (STANDINGS, DEEDS, LOOKS)]:
            if not isinstance(value, Store):
                self.assertIs(light() == value, False)
                self.assertIs(value == light(), False)
                self.assertIs(light() != value, True)


class NothingChangesTest(Case):
    def test_arguments_are_not_changed(self):
        given = [list(STANDINGS), copy.deepcopy(DEEDS), dict(LOOKS)]
        kept = repr(given)
        store = Store(*given)
        self.raised(BadLooks, Store, given[0], given[1], given[1])
        row = ["set", "clear", "set"]
        store.lead("off", row)
        bad = ["set", ["clear"], None]
        self.raised(NoDeed, store.lead, "off", bad)
        self.assertEqual(repr(given), kept)
        self.assertEqual((row, bad), (["set", "clear", "set"], ["set", ["clear"], None]))

    def test_wrong_arguments_are_not_changed(self):
        for value in [["on", "off", "on"], {"set": {"on": None}}, {"off": ["dark"]}, []]:
            for at, error in enumerate([BadStandings, BadDeeds, BadLooks]):
                args = [STANDINGS, DEEDS, LOOKS]
                args[at] = value
                kept = repr(args)
                self.raised(error, Store, *args)
                self.assertEqual(repr(args), kept)

    def test_what_was_given_may_be_changed_afterwards(self):
        given = [list(STANDINGS), copy.deepcopy(DEEDS), dict(LOOKS)]
        store = Store(*given)
        given[0].reverse()
        given[0].append("else")
        given[1]["set"]["off"] = "off"
        given[1]["more"] = {}
        del given[1]["clear"]
        given[2]["off"] = "grey"
        given[2]["else"] = "grey"
        self.assertEqual(store, light())
        self.assertEqual((store.standings, store.deeds), (("off", "on"), ("set", "clear")))
        self.assertEqual((store.look("off"), store.lead("off", ["set"])), ("dark", "on"))
        self.raised(NoStanding, store.look, "else")
        self.raised(NoDeed, store.lead, "off", ["more"])

    def test_a_dict_that_two_deeds_share_may_be_changed_afterwards(self):
        leads = {"off": "on", "on": "on"}
        store = Store(STANDINGS, {"set": leads, "also": leads}, LOOKS)
        leads["off"] = "off"
        self.assertEqual((store.lead("off", ["set"]), store.lead("off", ["also"])), ("on", "on"))

    def test_what_was_returned_may_be_changed_afterwards(self):
        store = three()
        come = store.come()
        come.reverse()
        come.append("else")
        self.assertEqual(store.come(), ["a", "b", "c"])
        self.assertEqual(store, three())

    def test_a_call_that_raises_changes_nothing(self):
        store = light()
        for value in wrong_values():
            self.raised(NoStanding, store.look, value)
            self.raised(NoStanding, store.lead, value, ["set"])
            self.raised(NoDeed, store.lead, "off", ["set", value])
        self.assertEqual(store, light())
        self.assertEqual(store.come(), ["off", "on"])


if __name__ == "__main__":
    unittest.main()
