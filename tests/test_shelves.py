"""Points [1] and [4] to [7]: letters, plans and events, as shelves lead them."""

import itertools
import random

from playedlate.errors import NotNow, TooFar
from playedlate.plans import Plan
from playedlate.shelves import Shelf
from playedlate.stores import Store
from tests.cases import Case
from tests.model import Model, all_events, shelf_told, walk
from tests.samples import (
    HOWS, all_plans, flag, largest, late, light, no_events, smallest, three, wrong_values,
)

KEYS = ["k", "l", "never"]
METHODS = ["__init__", "__eq__", "do", "standing", "due", "letter", "times", "undo", "fork"]
PROPERTIES = ["store", "plan", "queued", "shelved", "quiet"]


def count():
    """A store that counts the deeds done, up to four."""
    step = {"a": "b", "b": "c", "c": "d", "d": "e", "e": "e"}
    return Store(list("abcde"), {"add": step}, {name: name for name in "abcde"})


def behind(store, plan, events):
    shelf = Shelf(store, plan)
    for event in events:
        shelf.do(event)
    return shelf


class ShelfCase(Case):
    def check(self, shelf, events):
        """Checks that a shelf tells what these events have led to."""
        model = Model(shelf.store, shelf.plan, events)
        self.assertEqual(shelf_told(shelf, len(model.sent), KEYS), model.told(KEYS))
        self.assertIs(self.raised(NotNow, shelf.letter, len(model.sent)).value, len(model.sent))
        self.assertEqual(self.raised(TooFar, shelf.undo, len(events) + 1).count, len(events))


class ExamplesTest(ShelfCase):
    def test_examples(self):
        shelf = Shelf(light(), Plan("letter", tries=1))
        for event in late()[:3]:
            self.assertIsNone(shelf.do(event))
        self.assertEqual((shelf.queued, shelf.shelved), ([1], [0]))
        for event in late()[3:]:
            self.assertIsNone(shelf.do(event))
        self.assertIs(shelf.quiet, True)
        self.assertEqual((shelf.standing("k"), shelf.due("k"), shelf.times(0)), ("on", "off", 1))
        self.assertEqual(self.raised(NotNow, shelf.do, ("replay", "done")).value, ("replay", "done"))


class InterfaceTest(ShelfCase):
    def test_the_class_defines_what_is_listed(self):
        self.check_class(Shelf, "playedlate.shelves", METHODS, PROPERTIES)

    def test_arguments_by_name(self):
        shelf = Shelf(plan=Plan("key"), store=light())
        shelf.do(event=("send", "k", "set"))
        self.assertEqual((shelf.standing(key="k"), shelf.due(key="k")), ("off", "on"))
        self.assertEqual((shelf.letter(number=0), shelf.times(number=0)), (("k", "set"), 0))
        shelf.undo(number=1)
        self.assertEqual(shelf, Shelf(light(), Plan("key")))

    def test_do_and_undo_return_none(self):
        shelf = Shelf(light(), Plan("key"))
        self.assertIsNone(shelf.do(("send", "k", "set")))
        self.assertIsNone(shelf.undo(1))
        self.assertIsNone(shelf.undo(0))

    def test_properties_are_not_assigned(self):
        shelf = Shelf(light(), Plan("key"))
        for name in PROPERTIES:
            with self.assertRaises(AttributeError):
                setattr(shelf, name, getattr(shelf, name))

    def test_a_new_shelf(self):
        for plan in all_plans():
            for store in [light(), three(), smallest(), largest()]:
                shelf = Shelf(store, plan)
                self.assertEqual((shelf.store, shelf.plan), (store, plan))
                self.assertEqual((shelf.queued, shelf.shelved), ([], []))
                self.assertIs(shelf.quiet, True)
                self.assertEqual(shelf.standing("k"), store.standings[0])
                self.assertEqual(shelf.due("k"), store.standings[0])


class SendTest(ShelfCase):
    def test_letters_have_numbers_from_0_on_and_stand_at_the_end(self):
        shelf = behind(light(), Plan("key"), [("send", "k", "set"), ("send", "l", "clear"), ("send", "k", "set")])
        self.assertEqual(shelf.queued, [0, 1, 2])
        self.assertEqual([shelf.letter(n) for n in range(3)], [("k", "set"), ("l", "clear"), ("k", "set")])
        self.assertEqual([shelf.times(n) for n in range(3)], [0, 0, 0])
        self.assertIs(shelf.quiet, False)

    def test_sending_changes_the_due_standing_alone(self):
        shelf = Shelf(three(), Plan("letter"))
        for due in "bcab":
            shelf.do(("send", "k", "next"))
            self.assertEqual((shelf.standing("k"), shelf.due("k"), shelf.due("l")), ("a", due, "a"))

    def test_letters_that_are_gone_keep_their_numbers(self):
        shelf = behind(light(), Plan("key"), [("send", "k", "set"), ("work", "done"), ("send", "l", "clear")])
        self.assertEqual((shelf.queued, shelf.letter(0), shelf.letter(1)), ([1], ("k", "set"), ("l", "clear")))
        self.assertEqual((shelf.times(0), shelf.times(1)), (1, 0))

    def test_names_of_one_letter_and_of_eight(self):
        shelf = Shelf(largest(), Plan("all"))
        for key in ["a", "z", "abcdefgh", "stepstep"]:
            shelf.do(("send", key, "stepstep"))
            self.assertEqual(shelf.due(key), "b")


class HowTest(ShelfCase):
    def test_work_that_is_done(self):
        shelf = behind(count(), Plan("letter"), [("send", "k", "add"), ("work", "done")])
        self.assertEqual((shelf.queued, shelf.shelved, shelf.standing("k"), shelf.times(0)), ([], [], "b", 1))

    def test_work_that_stops(self):
        shelf = behind(count(), Plan("letter"), [("send", "k", "add"), ("work", "stops")])
        self.assertEqual((shelf.queued, shelf.shelved, shelf.standing("k"), shelf.times(0)), ([0], [], "b", 1))
        shelf.do(("work", "stops"))
        shelf.do(("work", "done"))
        self.assertEqual((shelf.queued, shelf.shelved, shelf.standing("k"), shelf.times(0)), ([], [], "d", 3))

    def test_work_that_fails(self):
        shelf = behind(count(), Plan("letter"), [("send", "k", "add"), ("work", "fails")])
        self.assertEqual((shelf.queued, shelf.shelved, shelf.standing("k"), shelf.times(0)), ([], [0], "a", 0))

    def test_a_letter_fails_as_often_as_the_plan_has_tries(self):
        for tries in [1, 2, 3]:
            shelf = behind(count(), Plan("letter", tries=tries), [("send", "k", "add"), ("send", "l", "add")])
            for _ in range(tries - 1):
                shelf.do(("work", "fails"))
                self.assertEqual((shelf.queued, shelf.shelved), ([0, 1], []))
            shelf.do(("work", "fails"))
            self.assertEqual((shelf.queued, shelf.shelved), ([1], [0]))
            # The failures of one letter do not count for the next one.
            for _ in range(tries - 1):
                shelf.do(("work", "fails"))
                self.assertEqual((shelf.queued, shelf.shelved), ([1], [0]))
            shelf.do(("work", "fails"))
            self.assertEqual((shelf.queued, shelf.shelved), ([], [0, 1]))

    def test_a_stop_between_failures_does_not_matter(self):
        events = [("send", "k", "add"), ("work", "fails"), ("work", "stops"), ("work", "fails")]
        shelf = behind(count(), Plan("letter", tries=2), events)
        self.assertEqual((shelf.queued, shelf.shelved, shelf.times(0)), ([], [0], 1))

    def test_replays(self):
        start = [("send", "k", "add"), ("send", "l", "add"), ("work", "fails"), ("work", "fails")]
        shelf = behind(count(), Plan("letter"), start)
        for _ in range(5):
            shelf.do(("replay", "fails"))
            self.assertEqual((shelf.shelved, shelf.standing("k"), shelf.times(0)), ([0, 1], "a", 0))
        shelf.do(("replay", "stops"))
        self.assertEqual((shelf.shelved, shelf.standing("k"), shelf.times(0)), ([0, 1], "b", 1))
        shelf.do(("replay", "done"))
        self.assertEqual((shelf.shelved, shelf.standing("k"), shelf.times(0)), ([1], "c", 2))
        self.assertEqual((shelf.quiet, shelf.standing("l")), (False, "a"))
        shelf.do(("replay", "done"))
        self.assertEqual((shelf.shelved, shelf.quiet, shelf.standing("l")), ([], True, "b"))

    def test_a_shelf_with_no_line_is_not_quiet_nor_a_line_with_no_shelf(self):
        shelf = behind(count(), Plan("letter"), [("send", "k", "add")])
        self.assertIs(shelf.quiet, False)
        shelf.do(("work", "fails"))
        self.assertEqual((shelf.queued, shelf.quiet), ([], False))


class HeldTest(ShelfCase):
    def sent(self, way):
        """Letters 0 and 1 of k, 2 and 3 of l, of which the first one is on the shelf."""
        events = [("send", "k", "add"), ("send", "k", "add"), ("send", "l", "add"), ("send", "l", "add")]
        return behind(count(), Plan(way), events + [("work", "fails")])

    def test_by_letter_none_is_held(self):
        shelf = self.sent("letter")
        shelf.do(("work", "done"))
        self.assertEqual((shelf.queued, shelf.shelved, shelf.standing("k")), ([2, 3], [0], "b"))

    def test_by_key_those_of_its_key_are_held(self):
        shelf = self.sent("key")
        shelf.do(("work", "done"))
        self.assertEqual((shelf.queued, shelf.shelved, shelf.standing("l")), ([1, 3], [0], "b"))
        shelf.do(("work", "fails"))
        self.assertEqual((shelf.queued, shelf.shelved), ([1], [0, 3]))
        for how in HOWS:
            self.assertEqual(self.raised(NotNow, shelf.do, ("work", how)).value, ("work", how))
        shelf.do(("replay", "done"))
        shelf.do(("work", "fails"))
        self.assertEqual((shelf.queued, shelf.shelved), ([], [3, 1]))

    def test_by_all_all_are_held(self):
        shelf = self.sent("all")
        for how in HOWS:
            self.assertEqual(self.raised(NotNow, shelf.do, ("work", how)).value, ("work", how))
        shelf.do(("send", "m", "add"))
        self.raised(NotNow, shelf.do, ("work", "done"))
        shelf.do(("replay", "fails"))
        shelf.do(("replay", "stops"))
        self.raised(NotNow, shelf.do, ("work", "done"))
        shelf.do(("replay", "done"))
        shelf.do(("work", "done"))
        self.assertEqual((shelf.queued, shelf.shelved), ([2, 3, 4], []))


class GuardsTest(ShelfCase):
    def counted(self, guards, events):
        """The standing of k, and how often the deeds of its letters were done."""
        shelf = behind(count(), Plan("letter", guards), events)
        sent = [event for event in events if event[0] == "send"]
        return shelf.standing("k"), [shelf.times(number) for number in range(len(sent))]

    def test_a_letter_that_stops_and_is_done_again(self):
        events = [("send", "k", "add"), ("work", "stops"), ("work", "stops"), ("work", "done")]
        self.assertEqual(self.counted([], events), ("d", [3]))
        for guards in [["once"], ["stamp"], ["once", "stamp"]]:
            self.assertEqual(self.counted(guards, events), ("b", [1]))

    def test_a_replay_that_stops_and_is_done_again(self):
        events = [("send", "k", "add"), ("work", "fails"), ("replay", "stops"), ("replay", "done")]
        self.assertEqual(self.counted([], events), ("c", [2]))
        for guards in [["once"], ["stamp"], ["once", "stamp"]]:
            self.assertEqual(self.counted(guards, events), ("b", [1]))

    def test_a_letter_that_stops_and_is_replayed(self):
        events = [("send", "k", "add"), ("work", "stops"), ("work", "fails"), ("replay", "done")]
        self.assertEqual(self.counted([], events), ("c", [2]))
        for guards in [["once"], ["stamp"], ["once", "stamp"]]:
            self.assertEqual(self.counted(guards, events), ("b", [1]))

    def test_a_letter_that_comes_too_late(self):
        events = [("send", "k", "add"), ("send", "k", "add"), ("work", "fails"), ("work", "done"), ("replay", "done")]
        for guards in [[], ["once"]]:
            self.assertEqual(self.counted(guards, events), ("c", [1, 1]))
        for guards in [["stamp"], ["once", "stamp"]]:
            self.assertEqual(self.counted(guards, events), ("b", [0, 1]))

    def test_stamps_are_those_of_the_key(self):
        events = [("send", "k", "add"), ("send", "l", "add"), ("work", "fails"), ("work", "done"), ("replay", "done")]
        self.assertEqual(self.counted(["stamp"], events), ("b", [1, 1]))

    def test_a_deed_that_was_not_done_leaves_the_stamp(self):
        events = [("send", "k", "add"), ("send", "k", "add"), ("work", "fails")]
        events += [("work", "stops"), ("replay", "done"), ("work", "done")]
        self.assertEqual(self.counted(["once"], events), ("c", [1, 1]))
        self.assertEqual(self.counted([], events), ("d", [1, 2]))
        self.assertEqual(self.counted(["stamp"], events), ("b", [0, 1]))

    def test_all_else_is_as_if_it_had_been_done(self):
        events = [("send", "k", "add"), ("send", "k", "add"), ("work", "fails"), ("work", "done")]
        shelf = behind(count(), Plan("letter", ["stamp"]), events)
        shelf.do(("replay", "stops"))
        self.assertEqual((shelf.shelved, shelf.times(0)), ([0], 0))
        shelf.do(("replay", "done"))
        self.assertEqual((shelf.shelved, shelf.quiet, shelf.times(0)), ([], True, 0))

    def test_what_failed_was_not_done(self):
        events = [("send", "k", "add"), ("work", "fails"), ("replay", "fails"), ("replay", "done")]
        for guards in [[], ["once"], ["stamp"], ["once", "stamp"]]:
            self.assertEqual(self.counted(guards, events), ("b", [1]))


class ModelTest(ShelfCase):
    def check_walk(self, store, plan, events):
        shelf = Shelf(store, plan)
        for many, event in enumerate(events):
            model = Model(store, plan, events[:many])
            for other in all_events(store, KEYS[:2]):
                if not model.possible(other):
                    self.assertIs(self.raised(NotNow, shelf.do, other).value, other)
            shelf.do(event)
            self.check(shelf, events[:many + 1])
        while events:
            back = min(len(events), 3)
            shelf.undo(back)
            events = events[:len(events) - back]
            self.check(shelf, events)

    def test_rows_by_chance(self):
        dice = random.Random(11)
        for plan in all_plans():
            for store in [light(), three(), count(), flag(), largest(), smallest()]:
                self.check_walk(store, plan, walk(store, plan, KEYS[:2], dice, 25))

    def test_all_short_rows(self):
        for plan in all_plans():
            store = light()
            rows = [[]]
            for _ in range(4):
                rows = [
                    row + [event]
                    for row in rows
                    for event in [("send", "k", "set"), ("send", "k", "clear")] + all_events(store, [])
                    if Model(store, plan, row).possible(event)
                ]
            for row in rows:
                self.check(behind(store, plan, row), row)


class NotNowTest(ShelfCase):
    def check_refused(self, shelf, value):
        kept = shelf.fork()
        self.assertIs(self.raised(NotNow, shelf.do, value).value, value)
        self.assertIs(shelf == kept, True)

    def test_nothing_to_work_and_nothing_to_replay(self):
        for plan in all_plans():
            shelf = Shelf(light(), plan)
            for word, how in itertools.product(["work", "replay"], HOWS):
                self.check_refused(shelf, (word, how))
            shelf.do(("send", "k", "set"))
            for how in HOWS:
                self.check_refused(shelf, ("replay", how))
            shelf.do(("work", "done"))
            for word, how in itertools.product(["work", "replay"], HOWS):
                self.check_refused(shelf, (word, how))

    def test_an_empty_line_with_a_letter_on_the_shelf(self):
        for way in ["letter", "key", "all"]:
            shelf = behind(light(), Plan(way), [("send", "k", "set"), ("work", "fails")])
            for how in HOWS:
                self.check_refused(shelf, ("work", how))

    def test_values_that_are_no_events(self):
        shelf = behind(light(), Plan("letter"), late()[:3])
        for value in wrong_values() + no_events():
            self.check_refused(shelf, value)
        self.check(shelf, late()[:3])

    def test_deeds_of_the_very_store(self):
        shelf = Shelf(three(), Plan("letter"))
        self.check_refused(shelf, ("send", "k", "set"))
        shelf.do(("send", "k", "next"))

    def test_numbers_of_letters(self):
        shelf = behind(light(), Plan("letter"), late()[:3])
        wrong = [2, 3, -1, -2, 10 ** 60, True, False, None, "0", "1", [0], (1,), {0: 1}, "k", ("k", "set"), "set"]
        # Two letters were sent, so 0 and 1 are right, and True and False are no numbers.
        others = [value for value in wrong_values() if type(value) is not int or value not in (0, 1)]
        for value in wrong + others:
            self.assertIs(self.raised(NotNow, shelf.letter, value).value, value)
            self.assertIs(self.raised(NotNow, shelf.times, value).value, value)
        self.check(shelf, late()[:3])
        for function in [Shelf(light(), Plan("key")).letter, Shelf(light(), Plan("key")).times]:
            for value in [0, -1, False]:
                self.assertIs(self.raised(NotNow, function, value).value, value)


class UndoTest(ShelfCase):
    def test_none_all_and_one_too_many(self):
        for plan in all_plans():
            events = walk(light(), plan, KEYS[:2], random.Random(3), 12)
            shelf = behind(light(), plan, events)
            shelf.undo(0)
            self.check(shelf, events)
            for many in [13, 14, 100, 10 ** 60 - 1]:
                self.assertEqual(self.raised(TooFar, shelf.undo, many).count, 12)
                self.check(shelf, events)
            shelf.undo(12)
            self.check(shelf, [])
            self.assertEqual(shelf, Shelf(light(), plan))
            shelf.undo(0)
            self.assertEqual(self.raised(TooFar, shelf.undo, 1).count, 0)

    def test_each_number_of_events(self):
        for plan in all_plans():
            events = walk(count(), plan, KEYS[:2], random.Random(5), 12)
            for many in range(13):
                shelf = behind(count(), plan, events)
                shelf.undo(many)
                self.check(shelf, events[:12 - many])
                self.assertIs(shelf == behind(count(), plan, events[:12 - many]), True)

    def test_letters_that_were_taken_back_were_not_sent(self):
        shelf = behind(light(), Plan("letter"), late())
        shelf.undo(4)
        self.assertEqual((shelf.letter(0), shelf.due("k"), shelf.queued), (("k", "set"), "on", [0]))
        self.assertEqual(self.raised(NotNow, shelf.letter, 1).value, 1)
        self.assertEqual(self.raised(NotNow, shelf.times, 1).value, 1)
        shelf.do(("send", "l", "clear"))
        self.assertEqual(shelf.letter(1), ("l", "clear"))

    def test_failures_that_were_taken_back_do_not_count(self):
        shelf = behind(light(), Plan("letter", tries=2), [("send", "k", "set"), ("work", "fails"), ("work", "fails")])
        self.assertEqual(shelf.shelved, [0])
        shelf.undo(2)
        shelf.do(("work", "fails"))
        self.assertEqual((shelf.queued, shelf.shelved), ([0], []))
        shelf.do(("work", "fails"))
        self.assertEqual((shelf.queued, shelf.shelved), ([], [0]))

    def test_deeds_that_were_taken_back_guard_nothing(self):
        for guards in [["once"], ["stamp"], ["once", "stamp"]]:
            shelf = behind(count(), Plan("letter", guards), [("send", "k", "add"), ("work", "stops")])
            shelf.undo(1)
            self.assertEqual((shelf.standing("k"), shelf.times(0)), ("a", 0))
            shelf.do(("work", "done"))
            self.assertEqual((shelf.standing("k"), shelf.times(0)), ("b", 1))

    def test_a_letter_from_the_midst_of_the_line_goes_back_there(self):
        events = [("send", "k", "set"), ("send", "k", "set"), ("send", "l", "set"), ("send", "k", "set")]
        shelf = behind(light(), Plan("key"), events + [("work", "fails"), ("work", "done")])
        self.assertEqual((shelf.queued, shelf.shelved), ([1, 3], [0]))
        shelf.undo(1)
        self.assertEqual((shelf.queued, shelf.shelved), ([1, 2, 3], [0]))
        shelf.undo(1)
        self.assertEqual((shelf.queued, shelf.shelved), ([0, 1, 2, 3], []))

    def test_events_that_were_refused_are_not_counted(self):
        shelf = behind(light(), Plan("letter"), late()[:2])
        self.raised(NotNow, shelf.do, ("replay", "done"))
        self.raised(NotNow, shelf.do, None)
        self.assertEqual(self.raised(TooFar, shelf.undo, 3).count, 2)


class ForkTest(ShelfCase):
    def test_a_fork_is_another_equal_shelf(self):
        for plan in all_plans():
            events = walk(light(), plan, KEYS[:2], random.Random(9), 15)
            shelf = behind(light(), plan, events)
            fork = shelf.fork()
            self.assertIs(type(fork), Shelf)
            self.assertIsNot(fork, shelf)
            self.assertIs(fork == shelf, True)
            self.check(fork, events)
            fork.undo(15)
            self.check(fork, [])
            self.check(shelf, events)

    def test_forks_that_go_on_by_turns(self):
        dice = random.Random(13)
        for plan in all_plans():
            store = dice.choice([light(), three(), count()])
            both = [(Shelf(store, plan), [])]
            for turn in range(60):
                shelf, events = both[turn % len(both)]
                if turn in (10, 20, 30):
                    both.append((shelf.fork(), list(events)))
                elif events and dice.randint(0, 4) == 0:
                    many = dice.randint(0, min(3, len(events)))
                    shelf.undo(many)
                    del events[len(events) - many:]
                else:
                    possible = [e for e in all_events(store, KEYS[:2]) if Model(store, plan, events).possible(e)]
                    event = dice.choice(possible)
                    shelf.do(event)
                    events.append(event)
                for other, happened in both:
                    self.check(other, happened)

    def test_a_fork_of_a_fork(self):
        shelf = behind(light(), Plan("key"), late()[:3])
        fork = shelf.fork().fork()
        shelf.do(("replay", "done"))
        self.check(fork, late()[:3])
        fork.do(("replay", "stops"))
        self.check(shelf, late()[:3] + [("replay", "done")])
        self.assertIs(shelf == fork, False)


class EqualTest(ShelfCase):
    def test_the_same_events(self):
        for many in range(6):
            first, second = [behind(light(), Plan("letter"), late()[:many]) for _ in range(2)]
            self.assertIs(first == second, True)
            self.assertIs(first != second, False)
            self.assertIs(first == first, True)

    def test_other_events_other_plans_other_stores(self):
        plain = [("send", "k", "set"), ("send", "k", "clear"), ("work", "done"), ("work", "done")]
        shelves = [behind(light(), Plan("letter"), late()[:many]) for many in range(6)]
        shelves += [behind(light(), Plan("letter"), plain), behind(light(), Plan("letter"), plain[:1] + plain[2:3])]
        shelves += [Shelf(light(), Plan("key")), Shelf(light(), Plan("letter", ["once"]))]
        shelves += [Shelf(light(), Plan("letter", tries=2)), Shelf(three(), Plan("letter"))]
        for (at, first), (to, second) in itertools.product(enumerate(shelves), repeat=2):
            self.assertIs(first == second, at == to)
            self.assertIs(first != second, at != to)

    def test_events_count_not_what_they_led_to(self):
        stop = [("send", "k", "set"), ("work", "stops"), ("work", "done")]
        twice = [("send", "k", "set"), ("work", "stops"), ("work", "stops"), ("work", "done")]
        plan = Plan("letter", ["once"])
        first, second = behind(light(), plan, stop), behind(light(), plan, twice)
        self.assertEqual(shelf_told(first, 1, KEYS), shelf_told(second, 1, KEYS))
        self.assertIs(first == second, False)

    def test_events_that_were_taken_back_have_not_happened(self):
        first, second = [behind(light(), Plan("letter"), late()[:3]) for _ in range(2)]
        first.do(("work", "stops"))
        first.do(("replay", "done"))
        first.undo(2)
        self.assertIs(first == second, True)
        first.do(("work", "done"))
        self.assertIs(first == second, False)

    def test_other_values(self):
        shelf = Shelf(light(), Plan("key"))
        for value in wrong_values() + [light(), Plan("key"), (light(), Plan("key")), []]:
            self.assertIs(shelf == value, False)
            self.assertIs(value == shelf, False)
            self.assertIs(shelf != value, True)


class NothingChangesTest(ShelfCase):
    def test_the_store_and_the_plan_are_not_changed(self):
        store, plan = light(), Plan("key", ["stamp", "once"], tries=2)
        shelf = behind(store, plan, walk(store, plan, KEYS[:2], random.Random(1), 40))
        shelf.undo(17)
        self.assertEqual((store, plan), (light(), Plan("key", ["once", "stamp"], tries=2)))
        self.assertEqual((shelf.store, shelf.plan), (store, plan))

    def test_what_was_returned_may_be_changed_afterwards(self):
        shelf = behind(light(), Plan("letter"), late()[:3] + [("send", "k", "set")])
        for rows in [shelf.queued, shelf.shelved]:
            rows.append(7)
            rows.reverse()
        self.assertEqual((shelf.queued, shelf.shelved), ([1, 2], [0]))
        self.check(shelf, late()[:3] + [("send", "k", "set")])

    def test_wrong_events_are_not_changed(self):
        for value in [["send", "k", "set"], ("send", ["k"], "set"), ("work", {"done": []}), [("work", "done")]]:
            kept = repr(value)
            self.raised(NotNow, Shelf(light(), Plan("key")).do, value)
            self.assertEqual(repr(value), kept)

    def test_a_call_that_raises_changes_nothing(self):
        for plan in all_plans():
            events = walk(light(), plan, KEYS[:2], random.Random(2), 10)
            shelf = behind(light(), plan, events)
            model = Model(light(), plan, events)
            impossible = [event for event in all_events(light(), KEYS) if not model.possible(event)]
            for value in no_events() + impossible:
                self.raised(NotNow, shelf.do, value)
            self.raised(NotNow, shelf.letter, -1)
            self.raised(NotNow, shelf.times, None)
            self.raised(TooFar, shelf.undo, 11)
            self.check(shelf, events)
            self.assertEqual(shelf, behind(light(), plan, events))

    def test_reading_changes_nothing(self):
        shelf = behind(light(), Plan("key"), late()[:3])
        for key in KEYS + ["other"]:
            shelf.standing(key)
            shelf.due(key)
        self.assertEqual(shelf, behind(light(), Plan("key"), late()[:3]))
        self.check(shelf, late()[:3])
