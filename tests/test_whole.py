"""Point [1] over all modules, and points [5] to [9] where several modules work on the same things."""

import copy
import inspect
import random

from playedlate import errors
from playedlate.bearing import again, change_places, left_out, twice
from playedlate.days import day, since
from playedlate.harms import harm, safe
from playedlate.joined import joined
from playedlate.likeness import alike, classes, parting
from playedlate.plans import Plan
from playedlate.rows import run, shows, waits
from playedlate.shelves import Shelf
from playedlate.stores import Store
from playedlate.texts import read_row, row_text
from tests.cases import Case
from tests.model import Model, shelf_told, walk
from tests.samples import (
    all_plans, first_wins, flag, hidden, largest, late, light, mixed_stores, no_events, small_stores, smallest, three,
    two_deeds, wrong_values,
)

KEYS = ["k", "l", "never"]
PARAMETERS = [
    (Store, "standings deeds looks"), (Store.look, "self standing"), (Store.lead, "self standing row"),
    (Store.come, "self"), (parting, "store first second"), (alike, "store first second"), (classes, "store"),
    (change_places, "store first second"), (twice, "store deed"), (again, "store deed"), (left_out, "store deed"),
    (Plan, "way guards tries"), (Shelf, "store plan"), (Shelf.do, "self event"), (Shelf.standing, "self key"),
    (Shelf.due, "self key"), (Shelf.letter, "self number"), (Shelf.times, "self number"), (Shelf.undo, "self number"),
    (Shelf.fork, "self"), (run, "store plan row"), (shows, "store plan value"), (waits, "store plan row"),
    (harm, "store plan"), (safe, "store way"), (day, "store"), (since, "store"), (joined, "first second sends"),
    (row_text, "row"), (read_row, "store text"),
]


def lamp():
    return joined(three(), light(), {"next": "set"})


def named_stores():
    return [light(), three(), flag(), first_wins(), hidden(), largest(), smallest(), lamp()]


def told(store):
    """All that the modules tell of a store, at which parts may be exchanged."""
    values = [store, store.standings, store.deeds, store.come(), classes(store), day(store), since(store)]
    values += [safe(store, way) for way in ["letter", "key", "all"]]
    for plan in [Plan("letter"), Plan("letter", ["stamp"], tries=3), Plan("all", ("once",))]:
        values += [plan, plan.guards, harm(store, plan), row_text(harm(store, plan) or []), Shelf(store, plan).fork()]
    for deed in store.deeds:
        values += [twice(store, deed), again(store, deed), left_out(store, deed)]
    return values


def exchanged(store):
    """What is told of a store, with parts exchanged, left out, repeated, put in."""
    values = told(store)
    for value in told(store):
        if isinstance(value, (list, tuple)):
            values += [value[1:], value[::-1], value * 2, list(value) + [store], (value, None), {"value": value}]
        if isinstance(value, str):
            values += [value[1:], value + "\n", value + " ", value.upper(), value.replace(" ", ""), [value]]
    return values


def all_calls(store):
    """Calls that tell lists and dicts, of each module. All of them are on the same objects."""
    plan, row = Plan("letter", tries=2), walk(store, Plan("letter", tries=2), KEYS[:2], random.Random(51), 25)
    shelf = run(store, plan, row)
    calls = [store.come, lambda: classes(store), lambda: day(store), lambda: since(store)]
    calls += [lambda: safe(store, "letter"), lambda: safe(store, "key"), lambda: shelf.queued, lambda: shelf.shelved]
    calls += [lambda: harm(store, plan), lambda: harm(store, Plan("all"))]
    calls += [lambda: harm(store, Plan("letter", ["stamp"], tries=3))]
    calls += [lambda: read_row(store, row_text(row)), lambda: read_row(store, "")]
    for one in store.standings:
        calls += [lambda one=one, other=other: parting(store, one, other) for other in store.standings]
    for deed in store.deeds:
        calls += [lambda call=call, deed=deed: call(store, deed) for call in [twice, again, left_out]]
        calls += [lambda deed=deed, other=other: change_places(store, deed, other) for other in store.deeds]
    return calls


def spoil(value):
    """Changes all lists in an answer."""
    if isinstance(value, (list, tuple)):
        for part in value:
            spoil(part)
    if isinstance(value, list):
        value.reverse()
        value.append("else")


class NamesTest(Case):
    def test_arguments_have_the_names_of_the_document(self):
        for called, names in PARAMETERS:
            self.assertEqual(list(inspect.signature(called).parameters), names.split(), called)

    def test_only_tries_are_by_name_alone(self):
        for called, _ in PARAMETERS:
            for name, parameter in inspect.signature(called).parameters.items():
                kind = parameter.KEYWORD_ONLY if name == "tries" else parameter.POSITIONAL_OR_KEYWORD
                self.assertIs(parameter.kind, kind)

    def test_each_call_by_name(self):
        plan = Plan(way="letter", guards=["once"], tries=2)
        shelf = Shelf(store=light(), plan=plan)
        self.assertIsNone(shelf.do(event=("send", "k", "set")))
        self.assertEqual(run(store=light(), plan=plan, row=[("send", "k", "set")]), shelf)
        self.assertEqual(shows(store=light(), plan=plan, value=harm(store=light(), plan=plan)), True)
        self.assertEqual(waits(store=light(), plan=plan, row=read_row(store=light(), text=row_text(row=late()[:2]))), 0)
        self.assertEqual(safe(store=joined(first=three(), second=light(), sends={"next": "set"}), way="key"), [()])
        self.assertEqual([day(store=flag()), since(store=flag())], [None, None])


class NewTest(Case):
    def test_what_is_told_is_new(self):
        for store in named_stores():
            calls = all_calls(store)
            kept = [copy.deepcopy(call()) for call in calls]
            for call in calls:
                spoil(call())
            self.assertEqual([call() for call in calls], kept)

    def test_the_lists_of_one_answer_are_not_the_same(self):
        for store in named_stores() + list(mixed_stores()):
            for rows in [day(store), since(store)] + [again(store, deed) for deed in store.deeds]:
                lists = [row for row in rows or ()]
                self.assertEqual(len({id(row) for row in lists}), len(lists))

    def test_stores_plans_and_rows_are_not_changed(self):
        for many, store in enumerate(named_stores()):
            for plan in all_plans():
                kept = Plan(plan.way, plan.guards, tries=plan.tries)
                row = harm(store, plan) or walk(store, plan, KEYS[:2], random.Random(many), 10)
                events = list(row)
                run(store, plan, row)
                shows(store, plan, row)
                waits(store, plan, row)
                row_text(row)
                self.assertEqual((plan, row), (kept, events))
            for call in all_calls(store):
                call()
            self.assertEqual(store, named_stores()[many])

    def test_shelves_do_not_follow_the_rows_they_came_from(self):
        row = harm(light(), Plan("letter"))
        shelf = run(light(), Plan("letter"), row)
        happened = list(row)
        row.clear()
        self.assertEqual(shelf, run(light(), Plan("letter"), happened))


class SequenceTest(Case):
    def test_the_error_named_first_is_raised(self):
        self.raised(errors.BadStandings, Store, [], [], [])
        self.raised(errors.BadDeeds, Store, ["a"], [], [])
        self.raised(errors.NoStanding, light().lead, [], [[]])
        for call in [parting, alike]:
            self.assertEqual(self.raised(errors.NoStanding, call, light(), "p", "q").value, "p")
        self.assertEqual(self.raised(errors.NoDeed, change_places, light(), "p", "q").position, 0)
        self.assertEqual(self.raised(errors.BadPlan, Plan, "p", "q", tries=0).value, "p")
        self.assertEqual(self.raised(errors.BadPlan, Plan, "key", "q", tries=0).value, "q")
        self.assertEqual(self.raised(errors.BadEvent, run, light(), Plan("key"), [None, 1]).position, 0)
        self.raised(errors.BadSends, joined, largest(), largest(), {"back": "back", "go": "stay"})
        self.raised(errors.BadStandings, joined, largest(), largest(), {"back": "back"})
        self.assertEqual(self.raised(errors.BadText, read_row, light(), "a\nb").line, 1)


class AnyValueTest(Case):
    def values(self):
        return wrong_values() + no_events() + exchanged(light()) + exchanged(lamp())

    def test_values_that_are_no_standings_and_no_deeds(self):
        for value in self.values():
            self.assertIs(self.raised(errors.NoStanding, light().look, value).value, value)
            self.assertIs(self.raised(errors.NoStanding, parting, light(), "on", value).value, value)
            self.assertEqual(self.raised(errors.NoDeed, light().lead, "on", ["set", value]).position, 1)
            self.assertEqual(self.raised(errors.NoDeed, left_out, light(), value).position, 0)

    def test_values_that_are_no_plans_events_rows_and_texts(self):
        shelf = run(light(), Plan("letter"), late()[:3])
        for value in self.values():
            self.assertIs(self.raised(errors.BadPlan, Plan, value).value, value)
            self.assertIs(self.raised(errors.BadPlan, safe, light(), value).value, value)
            self.assertIs(self.raised(errors.NotNow, shelf.do, value).value, value)
            row = late()[:3] + [value]
            self.assertEqual(self.raised(errors.BadEvent, waits, light(), Plan("key"), row).position, 3)
            self.assertEqual(self.raised(errors.BadEvent, run, light(), Plan("key"), [value]).position, 0)
            self.assertIs(shows(light(), Plan("key"), value), False)
            if not isinstance(value, str):
                self.assertEqual(self.raised(errors.BadText, read_row, light(), value).line, 1)
            if value != {}:
                self.assertIs(self.raised(errors.BadSends, joined, three(), light(), value).value, value)
        self.assertEqual(shelf, run(light(), Plan("letter"), late()[:3]))

    def test_rows_of_harm_with_parts_exchanged(self):
        dice = random.Random(52)
        for plan in all_plans():
            for store in named_stores():
                row = harm(store, plan)
                for _ in range(8 if row else 0):
                    other = list(row)
                    first, second = dice.randrange(len(row)), dice.randrange(len(row))
                    other[first], other[second] = other[second], other[first]
                    if dice.randint(0, 1):
                        del other[first]
                    self.check_row(store, plan, other)

    def check_row(self, store, plan, row):
        """Checks what all modules say of a row of events that may not be possible."""
        self.assertEqual(read_row(store, row_text(row)), row)
        model = Model(store, plan)
        for position, event in enumerate(row):
            if not model.possible(event):
                self.assertEqual(self.raised(errors.BadEvent, run, store, plan, row).position, position)
                self.assertIs(shows(store, plan, row), False)
                return
            model.happen(event)
        self.assertIs(shows(store, plan, row), model.harmed())
        self.assertEqual(shelf_told(run(store, plan, row), len(model.sent), KEYS), model.told(KEYS))

    def test_objects_are_equal_to_no_values_of_other_kinds(self):
        for thing in [light(), Plan("key"), Shelf(light(), Plan("key"))]:
            for value in self.values():
                if type(value) is not type(thing):
                    self.assertIs(thing == value, False)
                    self.assertIs(value == thing, False)


class TogetherTest(Case):
    def test_a_row_that_shows_harm_goes_through_all_modules(self):
        for store in named_stores():
            for plan in all_plans():
                row = harm(store, plan)
                if row is None:
                    continue
                self.assertEqual(read_row(store, row_text(row)), row)
                shelf = run(store, plan, row)
                key = shelf.letter(0)[0]
                self.assertIs(shelf.quiet, True)
                self.assertNotEqual(store.look(shelf.standing(key)), store.look(shelf.due(key)))
                waited = [Model(store, plan, row[:many + 1]).waits() for many in range(len(row))]
                self.assertEqual(waits(store, plan, row), waited.count(True))
                fork = shelf.fork()
                fork.undo(len(row))
                self.assertEqual(fork, Shelf(store, plan))
                for event in row:
                    fork.do(event)
                self.assertEqual(fork, shelf)
                self.check_mended(store, plan, row)

    def check_mended(self, store, plan, row):
        """Checks that no harm is shown while a letter waits, or by a plan that can't come to harm."""
        self.assertIs(shows(store, plan, row + [("send", "other", store.deeds[0])]), False)
        for guards in safe(store, plan.way):
            self.assertIs(shows(store, Plan(plan.way, guards, tries=plan.tries), row), False)

    def test_what_deeds_bear_decides_harm(self):
        for store in named_stores() + list(small_stores()) + list(two_deeds()) + list(mixed_stores()):
            swaps = all(change_places(store, one, other) is None for one in store.deeds for other in store.deeds)
            twos = all(twice(store, deed) is None for deed in store.deeds)
            outs = all(left_out(store, deed) is None for deed in store.deeds)
            self.assertIs(harm(store, Plan("key")) is None, twos)
            self.assertIs(harm(store, Plan("all", tries=3)) is None, twos)
            self.assertIs(harm(store, Plan("letter")) is None, swaps and twos)
            self.assertIs(harm(store, Plan("letter", ["once"])) is None, swaps)
            self.assertIs(harm(store, Plan("letter", ["stamp"])) is None, outs)
            self.assertIs(harm(store, Plan("letter", ["stamp", "once"])) is None, outs)

    def test_what_deeds_bear_and_what_days_bear(self):
        for store in named_stores() + list(small_stores()) + list(two_deeds()) + list(mixed_stores()):
            if day(store) is None:
                self.assertEqual([twice(store, deed) for deed in store.deeds], [None] * len(store.deeds))
            if since(store) is None:
                self.assertEqual([again(store, deed) for deed in store.deeds], [None] * len(store.deeds))
            if len(store.deeds) == 1:
                self.assertIs(since(store) is None, again(store, store.deeds[0]) is None)

    def test_a_joined_store_in_all_modules(self):
        store = lamp()
        self.assertEqual(classes(store), [["aoff"], ["bon", "con", "aon"]])
        self.assertEqual(parting(store, "aoff", "con"), [])
        self.assertEqual([call(store, "next") for call in [twice, again, left_out]], [None] * 3)
        self.assertEqual([day(store), since(store)], [None, None])
        self.assertEqual([safe(store, way) for way in ["letter", "key", "all"]], [[()]] * 3)
        row = read_row(store, "send k next\nwork stops\nwork done")
        shelf = run(store, Plan("key"), row)
        self.assertEqual((shelf.standing("k"), shelf.due("k")), ("con", "bon"))
        self.assertIs(shows(store, Plan("key"), row), False)

    def test_stores_and_plans_that_are_equal_tell_the_same(self):
        for first, second in zip(named_stores(), named_stores()):
            for plan in all_plans():
                other = Plan(plan.way, list(plan.guards)[::-1], tries=plan.tries)
                self.assertEqual(harm(first, plan), harm(second, other))
                self.assertEqual(Shelf(first, plan), Shelf(second, other))
            self.assertEqual((day(first), since(first)), (day(second), since(second)))
