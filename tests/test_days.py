"""Points [1] and [9]: whether whole rows of deeds can be played a second time, at once or later."""

import itertools

from playedlate import days
from playedlate.bearing import again, change_places, twice
from playedlate.days import day, since
from playedlate.stores import Store
from tests.cases import ShownCase
from tests.samples import (
    first_wins, flag, hidden, largest, light, mixed_stores, small_stores, smallest, three, two_deeds,
)
from tests.search import outlooks, reached, turns


def bears_day(store, seen):
    """Whether each row can be played a second time as a whole, by all that rows can do."""
    return all(
        seen[turn[turn[q]]] == seen[turn[q]]
        for q in reached(store, store.standings[0]) for turn in turns(store)
    )


def bears_since(store, seen):
    """Whether each row can be played again whatever has come since, by all that rows can do."""
    return all(
        seen[turn[p]] == seen[p]
        for q in reached(store, store.standings[0]) for turn in turns(store) for p in reached(store, turn[q])
    )


def short_rows(store, least, most):
    for many in range(least, most + 1):
        for row in itertools.product(store.deeds, repeat=many):
            yield list(row)


def two_by_two():
    """Two deeds that can each be done twice, but not both of them one behind the other."""
    return Store(
        ["a", "b", "c", "d"],
        {"p": {"a": "b", "b": "b", "c": "d", "d": "d"}, "q": {"a": "a", "b": "c", "c": "c", "d": "a"}},
        {"a": "x", "b": "y", "c": "z", "d": "w"},
    )


class DaysCase(ShownCase):
    def check_day(self, store, bears):
        rows = day(store)
        if bears:
            self.assertIsNone(rows)
            return
        self.check_rows(store, rows, 3)
        u, v, w = rows
        self.assertGreater(len(v), 0)
        self.check_parted(store, u + v + w, u + v + v + w)

    def check_since(self, store, bears):
        rows = since(store)
        if bears:
            self.assertIsNone(rows)
            return
        self.check_rows(store, rows, 4)
        u, v, x, w = rows
        self.assertGreater(len(v), 0)
        self.check_parted(store, u + v + x + w, u + v + x + v + w)

    def check_store(self, store):
        seen = outlooks(store)
        self.check_day(store, bears_day(store, seen))
        self.check_since(store, bears_since(store, seen))


class ExamplesTest(DaysCase):
    def test_examples(self):
        self.assertIsNone(day(light()))
        self.assertEqual(len(since(light())), 4)
        self.assertEqual(len(day(three())), 3)
        self.assertIsNotNone(since(three()))
        self.assertIsNone(day(flag()))
        self.assertIsNone(since(flag()))


class InterfaceTest(DaysCase):
    def test_functions_are_defined_in_their_file(self):
        self.check_functions(days, ["day", "since"])

    def test_arguments_by_name(self):
        self.assertEqual(day(store=three()), day(three()))
        self.assertEqual(since(store=three()), since(three()))


class DaysTest(DaysCase):
    def test_named_stores(self):
        named = [(light(), True, False), (three(), False, False), (flag(), True, True), (smallest(), True, True)]
        named += [(largest(), False, False), (first_wins(), True, True), (two_by_two(), False, False)]
        for store, bears_at_once, bears_later in named:
            self.check_day(store, bears_at_once)
            self.check_since(store, bears_later)
            self.check_store(store)

    def test_a_row_whose_deeds_can_each_be_done_twice(self):
        store = two_by_two()
        self.assertEqual([twice(store, deed) for deed in store.deeds], [None, None])
        self.assertIsNotNone(day(store))
        self.assertGreater(len(day(store)[1]), 1)

    def test_deeds_that_do_not_change_places_may_be_played_again(self):
        store = first_wins()
        self.assertIsNotNone(change_places(store, "left", "right"))
        self.assertEqual([again(store, deed) for deed in store.deeds], [None, None])
        self.assertEqual([day(store), since(store)], [None, None])

    def test_standings_that_cannot_come_do_not_count(self):
        store = Store(["a", "b", "c"], {"go": {"a": "a", "b": "c", "c": "b"}}, {"a": "x", "b": "y", "c": "z"})
        self.assertEqual([day(store), since(store)], [None, None])

    def test_alike_standings_show_nothing(self):
        store = Store(["a", "b"], {"go": {"a": "b", "b": "a"}, "to": {"a": "a", "b": "a"}}, {"a": "x", "b": "x"})
        self.assertEqual([day(store), since(store)], [None, None])

    def test_what_is_seen_only_behind_further_deeds(self):
        store = hidden()
        self.check_store(store)
        for rows in [day(store), since(store)]:
            self.assertEqual(set(sum(rows, [])), set(store.deeds))

    def test_the_row_between_is_needed_where_a_day_can_be_played_at_once(self):
        u, v, x, w = since(light())
        self.assertGreater(len(x), 0)
        self.check_parted(light(), u + v + x + w, u + v + x + v + w)

    def test_what_can_be_played_again_later_can_be_so_at_once(self):
        for store in list(small_stores()) + list(two_deeds()) + list(mixed_stores()):
            if since(store) is None:
                self.assertIsNone(day(store))

    def test_against_all_that_rows_can_do(self):
        found = []
        for store in list(small_stores()) + list(two_deeds()) + list(mixed_stores()):
            self.check_store(store)
            found.append((day(store) is None, since(store) is None))
        for answer in [(True, True), (True, False), (False, False)]:
            self.assertGreater(found.count(answer), 2)

    def test_against_short_rows(self):
        stores = [store for store in mixed_stores() if len(store.deeds) <= 2]
        for store in list(small_stores()) + list(two_deeds()) + stores + [light(), flag(), first_wins()]:
            seen = outlooks(store)
            places = reached(store, store.standings[0])
            if day(store) is None:
                for q, v in itertools.product(places, short_rows(store, 1, 5)):
                    self.assertEqual(seen[store.lead(q, v)], seen[store.lead(q, v + v)])
            if since(store) is None:
                rows = list(short_rows(store, 0, 3))
                for q, v, x in itertools.product(places, short_rows(store, 1, 4), rows):
                    self.assertEqual(seen[store.lead(q, v + x)], seen[store.lead(q, v + x + v)])


class NothingChangesTest(DaysCase):
    def test_the_store_is_not_changed(self):
        for make in [light, three, largest]:
            store = make()
            day(store)
            since(store)
            self.assertEqual(store, make())

    def test_what_was_returned_may_be_changed_afterwards(self):
        for function, store in itertools.product([day, since], [three(), largest(), two_by_two()]):
            kept = repr(function(store))
            for row in function(store):
                row.reverse()
                row.append("else")
            self.assertEqual(repr(function(store)), kept)

    def test_the_rows_of_one_answer_are_not_one_list(self):
        for store in list(mixed_stores()) + [three(), light(), largest()]:
            for rows in [day(store) or (), since(store) or ()]:
                for row in rows:
                    row.append("more")
                self.assertEqual([row.count("more") for row in rows], [1] * len(rows))
