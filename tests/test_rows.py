"""Points [1], [6] and [8]: rows of events, whether they are possible, show harm, and let letters wait."""

import itertools
import random

from playedlate import rows
from playedlate.errors import BadEvent
from playedlate.plans import Plan
from playedlate.rows import run, shows, waits
from playedlate.shelves import Shelf
from playedlate.stores import Store
from tests.cases import Case
from tests.model import Model, all_events, shelf_told, walk
from tests.samples import all_plans, flag, largest, late, light, no_events, smallest, three, wrong_values

KEYS = ["k", "l", "never"]


def quiet_row(store, plan, dice):
    """A row by chance that goes on until the shelf is quiet."""
    events = walk(store, plan, KEYS[:2], dice, 12)
    model = Model(store, plan, events)
    while model.line or model.shelf:
        event = ("replay", "done") if model.shelf else ("work", "done")
        model.happen(event)
        events.append(event)
    return events


def waited(store, plan, events):
    return sum(Model(store, plan, events[:many + 1]).waits() for many in range(len(events)))


class ExamplesTest(Case):
    def test_examples(self):
        plan = Plan("letter", tries=1)
        self.assertIs(shows(light(), plan, late()), True)
        self.assertIs(shows(light(), Plan("letter", ["stamp"]), late()), False)
        self.assertIs(shows(light(), Plan("key"), late()), False)
        self.assertIs(shows(light(), plan, late()[:4]), False)
        self.assertEqual(run(light(), plan, late()[:3]).shelved, [0])
        self.assertEqual(waits(light(), Plan("key"), late()[:3]), 1)
        self.assertEqual(waits(light(), Plan("letter"), late()[:3]), 0)


class InterfaceTest(Case):
    def test_functions_are_defined_in_their_file(self):
        self.check_functions(rows, ["run", "shows", "waits"])

    def test_arguments_by_name(self):
        plan = Plan("letter")
        self.assertEqual(run(row=late(), plan=plan, store=light()), run(light(), plan, late()))
        self.assertIs(shows(value=late(), plan=plan, store=light()), True)
        self.assertEqual(waits(row=late()[:3], plan=Plan("all"), store=light()), 1)

    def test_kinds_of_answers(self):
        self.assertIs(type(run(light(), Plan("key"), [])), Shelf)
        self.assertIs(type(waits(light(), Plan("key"), [])), int)


class RunTest(Case):
    def test_the_empty_row(self):
        for plan in all_plans():
            for store in [light(), smallest(), largest()]:
                self.assertEqual(run(store, plan, []), Shelf(store, plan))

    def test_the_shelf_behind_a_row(self):
        dice = random.Random(21)
        for plan in all_plans():
            for store in [light(), three(), flag(), largest(), smallest()]:
                events = walk(store, plan, KEYS[:2], dice, 20)
                shelf = run(store, plan, events)
                model = Model(store, plan, events)
                self.assertEqual((shelf.store, shelf.plan), (store, plan))
                self.assertEqual(shelf_told(shelf, len(model.sent), KEYS), model.told(KEYS))

    def test_its_events_may_be_taken_back(self):
        shelf = run(light(), Plan("letter"), late())
        shelf.undo(2)
        self.assertEqual(shelf, run(light(), Plan("letter"), late()[:3]))
        shelf.undo(3)
        self.assertEqual(shelf, Shelf(light(), Plan("letter")))


class ShowsTest(Case):
    def test_the_empty_row_shows_nothing(self):
        for plan in all_plans():
            self.assertIs(shows(light(), plan, []), False)

    def test_only_behind_a_quiet_shelf(self):
        stopped = [("send", "k", "next"), ("work", "stops")]
        self.assertIs(shows(three(), Plan("letter"), stopped), False)
        self.assertIs(shows(three(), Plan("letter"), stopped + [("work", "done")]), True)
        failed = stopped + [("work", "fails")]
        self.assertIs(shows(three(), Plan("letter"), failed), False)
        self.assertIs(shows(three(), Plan("letter"), failed + [("replay", "done")]), True)
        # The key k looks otherwise, but a letter of another key is still in the line.
        other = stopped + [("work", "done"), ("send", "l", "next")]
        self.assertIs(shows(three(), Plan("letter"), other), False)
        self.assertIs(shows(three(), Plan("letter"), other + [("work", "done")]), True)

    def test_any_key_may_look_otherwise(self):
        plain = [("send", "a", "next"), ("work", "done")]
        harmed = [("send", "k", "next"), ("work", "stops"), ("work", "done")]
        self.assertIs(shows(three(), Plan("letter"), plain), False)
        for row in [plain + harmed, harmed + plain, plain + harmed + [("send", "z", "next"), ("work", "done")]]:
            self.assertIs(shows(three(), Plan("letter"), row), True)

    def test_other_standings_that_look_the_same_show_nothing(self):
        # Three deeds lead back to a; a fourth one leads on to b, which looks the same.
        row = [("send", "k", "next")] * 3 + [("work", "done")] * 2 + [("work", "stops"), ("work", "done")]
        shelf = run(three(), Plan("letter"), row)
        self.assertEqual((shelf.standing("k"), shelf.due("k")), ("b", "a"))
        self.assertIs(shows(three(), Plan("letter"), row), False)

    def test_harm_that_later_letters_mend(self):
        mended = late() + [("send", "k", "clear"), ("work", "done")]
        self.assertIs(shows(light(), Plan("letter"), late()), True)
        self.assertIs(shows(light(), Plan("letter"), mended), False)

    def test_stops_with_each_set_of_guards(self):
        row = [("send", "k", "next"), ("work", "stops"), ("work", "done")]
        found = [shows(three(), Plan("all", guards), row) for guards in [[], ["once"], ["stamp"], ["once", "stamp"]]]
        self.assertEqual(found, [True, False, False, False])

    def test_stamp_alone_may_leave_out_a_deed(self):
        store = Store(
            ["a", "b", "c"],
            {"one": {"a": "b", "b": "b", "c": "c"}, "two": {"a": "a", "b": "c", "c": "c"}},
            {"a": "x", "b": "y", "c": "z"},
        )
        row = [("send", "k", "one"), ("send", "k", "two"), ("work", "fails"), ("work", "done"), ("replay", "done")]
        found = [shows(store, Plan("letter", guards), row) for guards in [[], ["once"], ["stamp"]]]
        self.assertEqual(found, [True, True, True])
        self.assertEqual(run(store, Plan("letter"), row).standing("k"), "b")
        self.assertEqual(run(store, Plan("letter", ["stamp"]), row).standing("k"), "a")

    def test_tries(self):
        self.assertIs(shows(light(), Plan("letter", tries=2), late()), False)
        row = late()[:3] + late()[2:]
        self.assertIs(shows(light(), Plan("letter", tries=2), row), True)
        self.assertIs(shows(light(), Plan("letter", tries=3), row), False)

    def test_against_the_model(self):
        dice = random.Random(22)
        found = []
        for plan in all_plans():
            for store in [light(), three(), flag(), largest(), smallest()]:
                for _ in range(8):
                    row = quiet_row(store, plan, dice)
                    harmed = Model(store, plan, row).harmed()
                    self.assertIs(shows(store, plan, row), harmed)
                    self.assertIs(shows(store, plan, row[:-1]), Model(store, plan, row[:-1]).harmed())
                    found.append(harmed)
        self.assertGreater(found.count(True), 50)
        self.assertGreater(found.count(False), 50)

    def test_rows_that_are_no_lists(self):
        plan = Plan("letter")
        for value in wrong_values() + no_events() + [tuple(late()), [late()], (late(),), {"row": late()}]:
            self.assertIs(shows(light(), plan, value), False)
        self.assertIs(shows(light(), plan, dict.fromkeys(late())), False)
        self.assertIs(shows(light(), plan, run(light(), plan, late())), False)

    def test_entries_that_are_no_events(self):
        for value in wrong_values() + no_events():
            for at in range(6):
                self.assertIs(shows(light(), Plan("letter"), late()[:at] + [value] + late()[at:]), False)

    def test_entries_that_are_not_possible(self):
        self.assertIs(shows(light(), Plan("letter"), late() + [("work", "done")]), False)
        self.assertIs(shows(light(), Plan("letter"), late() + [("replay", "done")]), False)
        self.assertIs(shows(light(), Plan("letter"), [("work", "done")] + late()), False)
        self.assertIs(shows(three(), Plan("letter"), late()), False)


class BadEventTest(Case):
    def check_bad(self, store, plan, row, position):
        for function in [run, waits]:
            found = self.raised(BadEvent, function, store, plan, row).position
            self.assertEqual((type(found), found), (int, position))

    def test_entries_that_are_no_events(self):
        for value in wrong_values() + no_events():
            for at in range(6):
                self.check_bad(light(), Plan("letter"), late()[:at] + [value] + late()[at:], at)

    def test_the_first_position_is_told(self):
        self.check_bad(light(), Plan("letter"), [None, ("work", "done"), None], 0)
        self.check_bad(light(), Plan("letter"), [("send", "k", "set"), ("replay", "done"), None], 1)
        self.check_bad(light(), Plan("letter"), late() + [("replay", "done"), None], 5)

    def test_events_that_are_not_possible_there(self):
        dice = random.Random(23)
        for plan in all_plans():
            events = walk(light(), plan, KEYS[:2], dice, 15)
            for at in range(16):
                model = Model(light(), plan, events[:at])
                for event in all_events(light(), KEYS[:2]):
                    if not model.possible(event):
                        self.check_bad(light(), plan, events[:at] + [event] + events[at:], at)

    def test_held_letters_are_not_worked(self):
        self.check_bad(light(), Plan("key"), late(), 3)
        self.check_bad(light(), Plan("all"), late(), 3)
        other = [("send", "k", "set"), ("send", "l", "set"), ("work", "fails"), ("work", "done")]
        self.check_bad(light(), Plan("all"), other, 3)
        self.assertEqual(run(light(), Plan("key"), other).queued, [])


class WaitsTest(Case):
    def test_the_empty_row(self):
        for plan in all_plans():
            self.assertEqual(waits(light(), plan, []), 0)

    def test_letters_held_by_key_and_by_all(self):
        row = [
            ("send", "k", "set"), ("work", "fails"), ("send", "l", "set"), ("replay", "fails"), ("send", "k", "set"),
            ("replay", "stops"), ("send", "l", "set"), ("replay", "done"), ("work", "done"),
        ]
        self.assertEqual(waits(light(), Plan("letter"), row), 0)
        self.assertEqual(waits(light(), Plan("key"), row), 3)
        self.assertEqual(waits(light(), Plan("all"), row), 5)

    def test_a_held_letter_that_is_not_the_first_in_the_line(self):
        row = [("send", "k", "set"), ("send", "l", "set"), ("send", "k", "set"), ("work", "fails"), ("work", "stops")]
        self.assertEqual(waits(light(), Plan("key"), row), 2)

    def test_against_the_model(self):
        dice = random.Random(24)
        for plan in all_plans():
            for store in [light(), three(), largest(), smallest()]:
                row = walk(store, plan, KEYS[:2], dice, 20)
                self.assertEqual(waits(store, plan, row), waited(store, plan, row))


class NothingChangesTest(Case):
    def test_arguments_are_not_changed(self):
        store, plan = light(), Plan("letter", tries=1)
        for row in [late(), late()[:3], [], late() + [["work", "done"]]]:
            kept = list(row)
            for function in [run, waits]:
                try:
                    function(store, plan, row)
                except BadEvent:
                    self.assertEqual(len(row), 6)
            shows(store, plan, row)
            self.assertEqual(row, kept)
        self.assertEqual((store, plan), (light(), Plan("letter", tries=1)))

    def test_wrong_values_are_not_changed(self):
        for value in [{"row": late()}, [["send", "k", "set"]], (late(), [late()]), [late()]]:
            kept = repr(value)
            self.assertIs(shows(light(), Plan("letter"), value), False)
            self.assertEqual(repr(value), kept)

    def test_what_was_given_may_be_changed_afterwards(self):
        row = late()
        shelf = run(light(), Plan("letter"), row)
        row.clear()
        self.assertEqual(shelf, run(light(), Plan("letter"), late()))
        self.assertEqual(shelf.letter(1), ("k", "clear"))

    def test_each_shelf_is_a_new_one(self):
        row = late()[:3]
        first, second = run(light(), Plan("letter"), row), run(light(), Plan("letter"), row)
        first.do(("work", "done"))
        self.assertEqual(second, run(light(), Plan("letter"), late()[:3]))
        self.assertEqual(row, late()[:3])

    def test_all_sequences_of_short_rows(self):
        # What is possible does not depend on calls that came before.
        events = [("send", "k", "set"), ("work", "fails"), ("work", "done"), ("replay", "done")]
        for row in itertools.product(events, repeat=4):
            model, position = Model(light(), Plan("key")), None
            for at, event in enumerate(row):
                if not model.possible(event):
                    position = at
                    break
                model.happen(event)
            if position is None:
                self.assertEqual(run(light(), Plan("key"), list(row)).queued, [letter.number for letter in model.line])
            else:
                self.assertEqual(self.raised(BadEvent, run, light(), Plan("key"), list(row)).position, position)
