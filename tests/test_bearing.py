"""Points [1] and [9]: what deeds bear, and rows that show what they do not."""

import itertools

from playedlate import bearing
from playedlate.bearing import again, change_places, left_out, twice
from playedlate.errors import NoDeed
from playedlate.stores import Store
from tests.cases import Case, ShownCase
from tests.samples import flag, largest, light, mixed_stores, small_stores, smallest, three, wrong_values
from tests.search import outlooks, reached


def bears_change(store, seen, first, second):
    return all(
        seen[store.lead(q, [first, second])] == seen[store.lead(q, [second, first])]
        for q in reached(store, store.standings[0])
    )


def bears_twice(store, seen, deed):
    return all(
        seen[store.lead(q, [deed])] == seen[store.lead(q, [deed, deed])]
        for q in reached(store, store.standings[0])
    )


def bears_again(store, seen, deed):
    return all(
        seen[p] == seen[store.lead(p, [deed])]
        for q in reached(store, store.standings[0])
        for p in reached(store, store.lead(q, [deed]))
    )


def bears_leaving_out(store, seen, deed):
    # Behind the empty row alone something else may be seen: the first of the outlooks.
    return all(
        seen[store.lead(q, [deed])][1:] == seen[q][1:]
        for q in reached(store, store.standings[0])
    )


class BearingCase(ShownCase):
    def check_change(self, store, seen, first, second):
        rows = change_places(store, first, second)
        if bears_change(store, seen, first, second):
            self.assertIsNone(rows)
            return
        self.check_rows(store, rows, 2)
        u, w = rows
        self.check_parted(store, u + [first, second] + w, u + [second, first] + w)

    def check_twice(self, store, seen, deed):
        rows = twice(store, deed)
        if bears_twice(store, seen, deed):
            self.assertIsNone(rows)
            return
        self.check_rows(store, rows, 2)
        u, w = rows
        self.check_parted(store, u + [deed] + w, u + [deed, deed] + w)

    def check_again(self, store, seen, deed):
        rows = again(store, deed)
        if bears_again(store, seen, deed):
            self.assertIsNone(rows)
            return
        self.check_rows(store, rows, 3)
        u, v, w = rows
        self.check_parted(store, u + [deed] + v + w, u + [deed] + v + [deed] + w)

    def check_left_out(self, store, seen, deed):
        rows = left_out(store, deed)
        if bears_leaving_out(store, seen, deed):
            self.assertIsNone(rows)
            return
        self.check_rows(store, rows, 2)
        u, v = rows
        self.assertGreater(len(v), 0)
        self.check_parted(store, u + [deed] + v, u + v)

    def check_store(self, store):
        seen = outlooks(store)
        for first, second in itertools.product(store.deeds, repeat=2):
            self.check_change(store, seen, first, second)
        for deed in store.deeds:
            self.check_twice(store, seen, deed)
            self.check_again(store, seen, deed)
            self.check_left_out(store, seen, deed)


class BearingTest(BearingCase):
    def test_examples(self):
        self.assertIsNone(change_places(light(), "set", "set"))
        self.assertEqual(len(change_places(light(), "set", "clear")), 2)
        self.assertIsNone(twice(light(), "set"))
        self.assertEqual(len(twice(three(), "next")), 2)
        self.assertEqual(len(again(light(), "set")), 3)
        self.assertIsNone(left_out(light(), "set"))
        self.assertIsNotNone(left_out(three(), "next"))

    def test_functions_are_defined_in_their_file(self):
        self.check_functions(bearing, ["change_places", "twice", "again", "left_out"])

    def test_arguments_by_name(self):
        self.assertEqual(
            change_places(second="clear", first="set", store=light()), change_places(light(), "set", "clear")
        )
        self.assertIsNone(twice(deed="set", store=light()))
        self.assertEqual(again(deed="set", store=light()), again(light(), "set"))
        self.assertIsNone(left_out(deed="set", store=light()))

    def test_one_standing_and_one_deed(self):
        self.assertIsNone(change_places(smallest(), "d", "d"))
        for function in [twice, again, left_out]:
            self.assertIsNone(function(smallest(), "d"))

    def test_the_same_deed_changes_places_with_itself(self):
        for store in [light(), three(), smallest(), largest(), flag()]:
            for deed in store.deeds:
                self.assertIsNone(change_places(store, deed, deed))

    def test_five_standings_and_four_deeds(self):
        store = largest()
        self.assertIsNone(change_places(store, "stepstep", "back"))
        self.assertIsNone(change_places(store, "stay", "home"))
        self.assertIsNotNone(change_places(store, "stepstep", "home"))
        self.assertEqual([twice(store, deed) is None for deed in store.deeds], [False, False, True, True])
        self.assertEqual([again(store, deed) is None for deed in store.deeds], [False, False, True, False])
        self.assertEqual([left_out(store, deed) is None for deed in store.deeds], [False, False, True, False])
        self.check_store(store)

    def test_a_deed_that_nothing_undoes_can_be_done_again_but_not_left_out_elsewhere(self):
        self.assertIsNone(twice(flag(), "mark"))
        self.assertIsNone(again(flag(), "mark"))
        self.assertIsNone(left_out(flag(), "mark"))
        looked = Store(
            ["no", "yes"],
            {"mark": {"no": "yes", "yes": "yes"}, "wait": {"no": "no", "yes": "yes"}},
            {"no": "x", "yes": "y"},
        )
        self.assertIsNone(again(looked, "mark"))
        self.assertIsNotNone(left_out(looked, "mark"))

    def test_what_is_seen_at_once_does_not_count_for_leaving_out(self):
        self.assertNotEqual(light().look("off"), light().look("on"))
        for deed in ["set", "clear"]:
            self.assertIsNone(left_out(light(), deed))

    def test_standings_that_cannot_come_do_not_count(self):
        store = Store(
            ["a", "b", "c"],
            {"go": {"a": "a", "b": "c", "c": "b"}, "to": {"a": "a", "b": "b", "c": "b"}},
            {"a": "x", "b": "y", "c": "z"},
        )
        self.assertIsNone(change_places(store, "go", "to"))
        for deed in store.deeds:
            for function in [twice, again, left_out]:
                self.assertIsNone(function(store, deed))

    def test_alike_standings_show_nothing(self):
        store = Store(["a", "b"], {"go": {"a": "b", "b": "a"}, "to": {"a": "a", "b": "a"}}, {"a": "x", "b": "x"})
        self.assertIsNone(change_places(store, "go", "to"))
        for deed in store.deeds:
            for function in [twice, again, left_out]:
                self.assertIsNone(function(store, deed))

    def test_the_rows_begin_at_the_start(self):
        # Only from c on do the deeds matter, and c comes first behind two deeds.
        names = "abcd"
        store = Store(
            list(names),
            {"go": {"a": "b", "b": "c", "c": "c", "d": "d"}, "turn": {"a": "a", "b": "b", "c": "d", "d": "c"}},
            {"a": "x", "b": "x", "c": "x", "d": "y"},
        )
        self.check_store(store)
        u, _ = twice(store, "turn")
        self.assertEqual(store.lead("a", u + ["turn"]) in ("c", "d"), True)

    def test_against_all_rows(self):
        for store in list(small_stores()) + list(mixed_stores()) + [light(), three(), flag()]:
            self.check_store(store)


class WrongDeedsTest(Case):
    def test_values_that_are_no_deeds(self):
        for value in wrong_values() + ["next", "se", "off", "dark", ["set"], ("set", "clear")]:
            for function in [twice, again, left_out]:
                position = self.raised(NoDeed, function, light(), value).position
                self.assertEqual((type(position), position), (int, 0))
            for args in [(value, "set"), (value, value), (value, None)]:
                position = self.raised(NoDeed, change_places, light(), *args).position
                self.assertEqual((type(position), position), (int, 0))
            position = self.raised(NoDeed, change_places, light(), "set", value).position
            self.assertEqual((type(position), position), (int, 1))

    def test_deeds_that_show_nothing_raise_all_the_same(self):
        self.assertEqual(self.raised(NoDeed, change_places, smallest(), "d", "s").position, 1)
        for function in [twice, again, left_out]:
            self.assertEqual(self.raised(NoDeed, function, smallest(), "s").position, 0)


class NothingChangesTest(Case):
    def test_the_store_is_not_changed(self):
        store = largest()
        for first in store.deeds:
            change_places(store, first, "home")
            for function in [twice, again, left_out]:
                function(store, first)
                self.raised(NoDeed, function, store, [first])
        self.assertEqual(store, largest())

    def test_wrong_values_are_not_changed(self):
        wrong = ["set", {"clear": ["set"]}]
        for function in [twice, again, left_out]:
            self.raised(NoDeed, function, light(), wrong)
        self.raised(NoDeed, change_places, light(), wrong, wrong)
        self.assertEqual(wrong, ["set", {"clear": ["set"]}])

    def test_what_was_returned_may_be_changed_afterwards(self):
        calls = [
            lambda store: change_places(store, "stepstep", "home"), lambda store: twice(store, "back"),
            lambda store: again(store, "home"), lambda store: left_out(store, "stepstep"),
        ]
        store = largest()
        for call in calls:
            kept = repr(call(store))
            for row in call(store):
                row.reverse()
                row.append("else")
            self.assertEqual(repr(call(store)), kept)
        self.assertEqual(store, largest())

    def test_the_rows_of_one_answer_are_not_one_list(self):
        rows = again(light(), "set")
        for row in rows:
            row.append("more")
        self.assertEqual([row.count("more") for row in rows], [1, 1, 1])
