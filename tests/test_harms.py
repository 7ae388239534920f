"""Points [1] and [4] to [8]: whether stores come to harm by plans, and which guards are enough."""

import itertools

from playedlate import harms
from playedlate.errors import BadPlan
from playedlate.harms import harm, safe
from playedlate.plans import Plan
from playedlate.rows import shows
from playedlate.stores import Store
from tests.cases import Case
from tests.samples import (
    all_plans, first_wins, flag, hidden, largest, light, mixed_stores, small_stores, smallest, three, two_deeds,
    wrong_values,
)
from tests.search import comes_to_harm

WAYS = ["letter", "key", "all"]
SETS = [(), ("once",), ("once", "stamp"), ("stamp",)]


def both_marks():
    """Two deeds that change places and can be done again, each seen whenever it was done."""
    return Store(
        ["none", "one", "two", "both"],
        {
            "one": {"none": "one", "one": "one", "two": "both", "both": "both"},
            "two": {"none": "two", "one": "both", "two": "two", "both": "both"},
        },
        {"none": "n", "one": "o", "two": "t", "both": "b"},
    )


def unseen():
    """Deeds that lead elsewhere, of which nothing is ever seen."""
    return Store(["a", "b"], {"go": {"a": "b", "b": "a"}, "to": {"a": "a", "b": "a"}}, {"a": "x", "b": "x"})


def out_of_reach():
    """Deeds that do nothing from the start, and all sorts of things from where it never comes."""
    return Store(
        ["a", "b", "c"],
        {"go": {"a": "a", "b": "c", "c": "b"}, "to": {"a": "a", "b": "b", "c": "b"}},
        {"a": "x", "b": "y", "c": "z"},
    )


class HarmCase(Case):
    def check_row(self, store, plan, row):
        """Checks that a row shows harm with letters of one key."""
        self.assertIs(type(row), list)
        self.assertIs(shows(store, plan, row), True)
        self.assertEqual(len({event[1] for event in row if event[0] == "send"}), 1)

    def check_harmed(self, store, way):
        """Checks which sets of guards show harm, with each number of tries; returns those that don't."""
        unharmed = []
        for guards in SETS:
            plans = [Plan(way, guards, tries=tries) for tries in [1, 2, 3]]
            rows = [harm(store, plan) for plan in plans]
            if rows[0] is None:
                self.assertEqual(rows, [None, None, None])
                unharmed.append(guards)
            else:
                for plan, row in zip(plans, rows):
                    self.check_row(store, plan, row)
        return unharmed


class ExamplesTest(HarmCase):
    def test_examples(self):
        plan = Plan("letter", tries=1)
        self.assertIs(shows(light(), plan, harm(light(), plan)), True)
        self.assertIsNone(harm(light(), Plan("key")))
        self.assertIsNone(harm(light(), Plan("letter", ["stamp"])))
        self.assertEqual(safe(light(), "letter"), [("stamp",)])
        self.assertEqual(safe(light(), "all"), [()])
        self.assertEqual(safe(three(), "key"), [("once",), ("stamp",)])
        self.assertEqual(safe(three(), "letter"), [("once",)])


class InterfaceTest(HarmCase):
    def test_functions_are_defined_in_their_file(self):
        self.check_functions(harms, ["harm", "safe"])

    def test_arguments_by_name(self):
        self.assertEqual(harm(plan=Plan("letter"), store=light()), harm(light(), Plan("letter")))
        self.assertEqual(safe(way="letter", store=three()), [("once",)])


class HarmTest(HarmCase):
    def check_unharmed(self, store, wanted):
        """Checks for each way which sets of guards keep a store from harm."""
        for way in WAYS:
            self.assertEqual(self.check_harmed(store, way), wanted[way == "letter"])

    def test_deeds_that_are_seen_in_their_sequence_but_not_twice(self):
        self.check_unharmed(light(), [SETS, [("once", "stamp"), ("stamp",)]])

    def test_deeds_that_are_seen_each_time(self):
        self.check_unharmed(three(), [SETS[1:], [("once",)]])

    def test_deeds_that_are_seen_whenever_they_were_done(self):
        self.check_unharmed(both_marks(), [SETS, [(), ("once",)]])

    def test_a_deed_that_the_next_one_does_as_well(self):
        self.check_unharmed(flag(), [SETS, SETS])

    def test_deeds_of_which_the_first_one_counts(self):
        self.check_unharmed(first_wins(), [SETS, []])

    def test_deeds_that_are_never_seen(self):
        for store in [unseen(), smallest()]:
            self.check_unharmed(store, [SETS, SETS])

    def test_standings_that_never_come_do_not_count(self):
        self.check_unharmed(out_of_reach(), [SETS, SETS])

    def test_five_standings_and_four_deeds(self):
        self.check_unharmed(largest(), [SETS[1:], []])

    def test_a_row_has_as_many_failures_as_the_plan_has_tries(self):
        for tries in [1, 2, 3]:
            for guards in [(), ("once",)]:
                plan = Plan("letter", guards, tries=tries)
                self.check_row(light(), plan, harm(light(), plan))
            plan = Plan("letter", ["stamp"], tries=tries)
            self.check_row(three(), plan, harm(three(), plan))

    def test_harm_only_behind_other_deeds_and_ahead_of_others(self):
        store = hidden()
        self.check_unharmed(store, [SETS[1:], []])
        for plan in all_plans():
            row = harm(store, plan) or []
            sent = {event[2] for event in row if event[0] == "send"}
            self.assertEqual(sent, set(store.deeds) if row else set())


class SearchTest(HarmCase):
    def check_search(self, store, plan, most, most_of_two):
        row = harm(store, plan)
        if row is None:
            self.assertIs(comes_to_harm(store, plan, ["k"], most), False)
            self.assertIs(comes_to_harm(store, plan, ["k", "l"], most_of_two), False)
            return
        self.check_row(store, plan, row)
        # The search is no good if it overlooks what was told.
        sent = len([event for event in row if event[0] == "send"])
        if sent <= 4:
            self.assertIs(comes_to_harm(store, plan, ["k"], sent), True)

    def test_small_stores(self):
        for store in small_stores():
            for plan in all_plans():
                if plan.tries == 1:
                    self.check_search(store, plan, 3, 2)

    def test_two_deeds(self):
        for store in two_deeds():
            for plan in all_plans():
                self.check_search(store, plan, 5 - plan.tries, 2)

    def test_named_stores(self):
        for store in [light(), three(), flag(), first_wins(), both_marks(), out_of_reach(), smallest()]:
            for plan in all_plans():
                self.check_search(store, plan, 4 if plan.tries == 1 else 3, 3 if plan.tries == 1 else 2)

    def test_mixed_stores(self):
        found = []
        for store in mixed_stores():
            for plan in all_plans():
                if plan.tries == 1 and plan.way != "all":
                    self.check_search(store, plan, 2, 2)
                row = harm(store, plan)
                if row is not None:
                    self.check_row(store, plan, row)
                found.append(row is None)
        self.assertGreater(found.count(True), 500)
        self.assertGreater(found.count(False), 500)


class SafeTest(HarmCase):
    def check_safe(self, store):
        for way in WAYS:
            unharmed = self.check_harmed(store, way)
            least = [s for s in unharmed if not any(set(other) < set(s) for other in unharmed)]
            self.assertEqual(safe(store, way), sorted(least))

    def test_the_least_sets_and_no_others(self):
        named = [light(), three(), flag(), first_wins(), both_marks(), unseen(), out_of_reach(), largest(), smallest()]
        for store in named + list(small_stores()) + list(two_deeds()) + list(mixed_stores()):
            self.check_safe(store)

    def test_each_answer(self):
        self.assertEqual(safe(flag(), "letter"), [()])
        self.assertEqual(safe(both_marks(), "letter"), [()])
        self.assertEqual(safe(first_wins(), "letter"), [])
        self.assertEqual(safe(largest(), "letter"), [])
        self.assertEqual(safe(largest(), "all"), [("once",), ("stamp",)])
        self.assertEqual(safe(first_wins(), "key"), [()])

    def test_both_guards_together_are_never_a_least_set(self):
        for way in WAYS:
            found = [safe(store, way) for store in list(two_deeds()) + list(mixed_stores()) + [three()]]
            wanted = [[()], [("once",)], [("stamp",)], []] if way == "letter" else [[()], [("once",), ("stamp",)]]
            for answer in wanted:
                self.assertIn(answer, found)
            for answer in found:
                self.assertIn(answer, wanted)

    def test_kinds_of_answers(self):
        for way in WAYS:
            told = safe(three(), way)
            self.assertIs(type(told), list)
            for guards in told:
                self.assertIs(type(guards), tuple)

    def test_values_that_are_no_ways(self):
        for value in wrong_values() + ["Letter", "keys", "", "once", "stamp", ["key"], ("all",), {"key": "all"}]:
            for store in [light(), smallest()]:
                self.assertIs(self.raised(BadPlan, safe, store, value).value, value)


class NothingChangesTest(HarmCase):
    def test_the_store_and_the_plan_are_not_changed(self):
        store = three()
        for plan in all_plans():
            kept = Plan(plan.way, plan.guards, tries=plan.tries)
            harm(store, plan)
            safe(store, plan.way)
            self.assertEqual((store, plan), (three(), kept))

    def test_what_was_returned_may_be_changed_afterwards(self):
        for plan in all_plans():
            kept = repr(harm(three(), plan))
            row = harm(three(), plan)
            if row is not None:
                row.reverse()
                row.append("else")
            self.assertEqual(repr(harm(three(), plan)), kept)
        for store in [light(), three(), first_wins()]:
            for way in WAYS:
                kept = list(safe(store, way))
                told = safe(store, way)
                told.append(("else",))
                told.reverse()
                self.assertEqual(safe(store, way), kept)

    def test_wrong_ways_are_not_changed(self):
        wrong = ["letter", {"key": ["all"]}]
        self.raised(BadPlan, safe, light(), wrong)
        self.assertEqual(wrong, ["letter", {"key": ["all"]}])
