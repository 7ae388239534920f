"""Points [1] and [5]: plans, what they take, what they tell and what they raise."""

import itertools

from playedlate.errors import BadPlan
from playedlate.plans import Plan
from tests.cases import Case
from tests.samples import all_plans, light, wrong_values

WORDS = ["letter", "key", "all"]


def told(plan):
    return plan.way, plan.guards, plan.tries


class PlanTest(Case):
    def test_the_class_defines_what_is_listed(self):
        self.check_class(Plan, "playedlate.plans", ["__init__", "__eq__"], ["way", "guards", "tries"])

    def test_each_way_each_set_of_guards_and_each_number_of_tries(self):
        sets = [(), ("once",), ("stamp",), ("once", "stamp")]
        for way, guards, tries in itertools.product(WORDS, sets, [1, 2, 3]):
            for given in [guards, list(guards), guards[::-1], list(guards)[::-1]]:
                plan = Plan(way, given, tries=tries)
                self.assertEqual(told(plan), (way, guards, tries))
                self.assertIs(type(plan.guards), tuple)
                self.assertIs(type(plan.tries), int)

    def test_no_guards_and_one_try_if_nothing_is_said(self):
        self.assertEqual(told(Plan("key")), ("key", (), 1))
        self.assertEqual(told(Plan("all", ["stamp"])), ("all", ("stamp",), 1))
        self.assertEqual(told(Plan("letter", tries=3)), ("letter", (), 3))

    def test_arguments_by_name(self):
        self.assertEqual(told(Plan(tries=2, guards=["stamp", "once"], way="all")), ("all", ("once", "stamp"), 2))

    def test_tries_are_passed_by_name_only(self):
        with self.assertRaises(TypeError):
            Plan("key", (), 1)

    def test_properties_are_not_assigned(self):
        plan = Plan("key")
        for name in ["way", "guards", "tries"]:
            with self.assertRaises(AttributeError):
                setattr(plan, name, getattr(plan, name))


class WrongPlanTest(Case):
    def refused(self, value, *args, **named):
        self.assertIs(self.raised(BadPlan, Plan, *args, **named).value, value)

    def test_ways(self):
        for value in wrong_values() + ["Letter", "keys", "ke", "once", "stamp", "letter ", ["key"], ("all",)]:
            self.refused(value, value)
            self.refused(value, value, ["once"], tries=2)

    def test_guards(self):
        wrong = [
            "once", "stamp", ["once", "once"], ("stamp", "stamp"), ["once", "stamp", "once"], ["once", "key"],
            ["onc"], ["Once"], [["once"]], [("once",)], (("once", "stamp"),), {"once": True}, {"once": 0, "stamp": 1},
            ["once", None], (None,), [True], ["once", ["stamp"]], [{}], ["stamp"] * 100000, "", "oncestamp",
        ]
        for value in wrong_values() + wrong:
            # Nothing at all is a right set of guards.
            if value not in ((), []):
                self.refused(value, "key", value)
                self.refused(value, "letter", value, tries=3)
        for value in wrong_values():
            guards = ["once", value]
            self.refused(guards, "all", guards)
            guards = (value, "stamp")
            self.refused(guards, "all", guards)

    def test_tries(self):
        for value in wrong_values() + [0, 4, -1, 10 ** 60, True, False, "1", "2", [1], (1,), {1: 1}, None, 1.0]:
            # A number from 1 to 3 is right.
            if type(value) is not int or not 1 <= value <= 3:
                self.refused(value, "key", tries=value)
                self.refused(value, "all", ["once", "stamp"], tries=value)

    def test_the_one_named_first_is_raised(self):
        right = ["key", ["once"], 2]
        wrong = ["else", ["once", "once"], 4]
        for bad in itertools.product([False, True], repeat=3):
            way, guards, tries = [w if is_bad else r for is_bad, r, w in zip(bad, right, wrong)]
            if any(bad):
                self.refused(wrong[bad.index(True)], way, guards, tries=tries)
            else:
                self.assertEqual(told(Plan(way, guards, tries=tries)), ("key", ("once",), 2))


class EqualTest(Case):
    def test_all_plans_differ(self):
        for (at, first), (to, second) in itertools.product(enumerate(all_plans()), repeat=2):
            self.assertIs(first == second, at == to)
            self.assertIs(first != second, at != to)

    def test_the_sequence_and_the_kind_of_guards_do_not_matter(self):
        self.assertIs(Plan("key", ["stamp", "once"]) == Plan("key", ("once", "stamp"), tries=1), True)
        self.assertIs(Plan("key", []) == Plan("key"), True)

    def test_other_values(self):
        plan = Plan("key", ["once"], tries=1)
        for value in wrong_values() + ["key", ("key", ("once",), 1), ["key", ["once"], 1], light()]:
            self.assertIs(plan == value, False)
            self.assertIs(value == plan, False)
            self.assertIs(plan != value, True)


class NothingChangesTest(Case):
    def test_guards_are_not_changed_and_may_be_changed_afterwards(self):
        guards = ["stamp", "once"]
        plan = Plan("key", guards)
        self.assertEqual(guards, ["stamp", "once"])
        guards.pop()
        guards.append("else")
        self.assertEqual(plan.guards, ("once", "stamp"))
        self.assertEqual(plan, Plan("key", ["once", "stamp"]))

    def test_wrong_guards_are_not_changed(self):
        guards = ["stamp", ["once"], "once"]
        self.raised(BadPlan, Plan, "key", guards)
        self.assertEqual(guards, ["stamp", ["once"], "once"])
