"""Points [1] and [3]: standings that are alike, and rows that tell others apart."""

import itertools
import unittest

from playedlate import likeness
from playedlate.errors import NoStanding
from playedlate.likeness import alike, classes, parting
from playedlate.stores import Store
from tests.cases import Case
from tests.samples import largest, light, mixed_stores, rows_of, small_stores, smallest, three, wrong_values

def pair():
    """Two standings that are alike though they are not equal."""
    return Store(["a", "b"], {"go": {"a": "b", "b": "a"}}, {"a": "x", "b": "x"})


def parts(store, row, first, second):
    return store.look(store.lead(first, row)) != store.look(store.lead(second, row))


def least_length(store, first, second):
    """The number of deeds in a shortest row that parts two standings, or None."""
    for row in rows_of(store):
        if parts(store, row, first, second):
            return len(row)
    return None


class LikenessTest(Case):
    def check_pair(self, store, first, second):
        least = least_length(store, first, second)
        row = parting(store, first, second)
        self.assertIs(alike(store, first, second), least is None)
        if least is None:
            self.assertIsNone(row)
        else:
            self.assertIs(type(row), list)
            self.assertEqual(len(row), least)
            self.assertTrue(parts(store, row, first, second))

    def check_classes(self, store):
        wanted = []
        for standing in store.standings:
            for group in wanted:
                if least_length(store, group[0], standing) is None:
                    group.append(standing)
                    break
            else:
                wanted.append([standing])
        self.assertEqual(classes(store), wanted)

    def test_examples(self):
        self.assertEqual(parting(light(), "off", "on"), [])
        self.assertEqual(parting(three(), "a", "b"), ["next"])
        self.assertIs(alike(three(), "a", "a"), True)
        self.assertEqual(classes(three()), [["a"], ["b"], ["c"]])
        self.assertEqual(classes(pair()), [["a", "b"]])

    def test_functions_are_defined_in_their_file(self):
        self.check_functions(likeness, ["parting", "alike", "classes"])

    def test_arguments_by_name(self):
        self.assertEqual(parting(second="b", first="a", store=three()), ["next"])
        self.assertIs(alike(second="b", first="a", store=three()), False)
        self.assertEqual(classes(store=light()), [["off"], ["on"]])

    def test_a_standing_is_alike_to_itself(self):
        for store in [light(), three(), smallest(), largest(), pair()]:
            for standing in store.standings:
                self.assertIs(alike(store, standing, standing), True)
                self.assertIsNone(parting(store, standing, standing))

    def test_alike_though_not_equal(self):
        self.assertIs(alike(pair(), "a", "b"), True)
        self.assertIs(alike(pair(), "b", "a"), True)
        self.assertIsNone(parting(pair(), "a", "b"))

    def test_the_same_is_seen_at_once_but_not_later(self):
        self.assertIs(alike(three(), "a", "b"), False)
        self.assertEqual(parting(three(), "b", "a"), ["next"])

    def test_parted_behind_three_deeds(self):
        names = "abcde"
        store = Store(
            list(names),
            {"go": {"a": "b", "b": "c", "c": "d", "d": "e", "e": "e"}},
            {"a": "x", "b": "x", "c": "x", "d": "x", "e": "y"},
        )
        self.assertEqual(parting(store, "a", "b"), ["go", "go", "go"])
        self.assertEqual(parting(store, "a", "e"), [])
        self.assertEqual(classes(store), [["a"], ["b"], ["c"], ["d"], ["e"]])

    def test_standings_that_cannot_come_count_too(self):
        stay = {"a": "a", "b": "b", "c": "c"}
        store = Store(["a", "b", "c"], {"stay": stay}, {"a": "x", "b": "y", "c": "x"})
        self.assertEqual(store.come(), ["a"])
        self.assertEqual(parting(store, "b", "c"), [])
        self.assertEqual(classes(store), [["a", "c"], ["b"]])

    def test_classes_follow_the_sequence_of_the_store(self):
        stay = {name: name for name in "edcba"}
        looks = {"e": "y", "d": "x", "c": "y", "b": "x", "a": "z"}
        store = Store(list("edcba"), {"stay": stay}, looks)
        self.assertEqual(classes(store), [["e", "c"], ["d", "b"], ["a"]])
        self.assertEqual(classes(smallest()), [["s"]])

    def test_against_all_rows(self):
        for store in list(small_stores()) + list(mixed_stores()) + [largest()]:
            for first, second in itertools.product(store.standings, repeat=2):
                self.check_pair(store, first, second)
            self.check_classes(store)

    def test_values_that_are_no_standings(self):
        for function in [parting, alike]:
            for value in wrong_values() + ["else", "o", "dark", "set"]:
                for args in [(value, "on"), ("on", value), (value, value), (value, "nowhere")]:
                    with self.assertRaises(NoStanding) as caught:
                        function(light(), *args)
                    self.assertIs(caught.exception.value, value)

    def test_the_first_one_is_named_ahead_of_the_second(self):
        for function in [parting, alike]:
            with self.assertRaises(NoStanding) as caught:
                function(light(), ["first"], {"second": 2})
            self.assertEqual(caught.exception.value, ["first"])

    def test_the_store_is_not_changed(self):
        store = three()
        parting(store, "a", "b")
        alike(store, "a", "c")
        classes(store)
        with self.assertRaises(NoStanding):
            parting(store, "a", [])
        self.assertEqual(store, three())

    def test_what_was_returned_may_be_changed_afterwards(self):
        store = three()
        parting(store, "a", "b").append("else")
        parting(store, "a", "c").append("else")
        groups = classes(store)
        groups[0].append("else")
        groups.reverse()
        self.assertEqual(parting(store, "a", "b"), ["next"])
        self.assertEqual(parting(store, "a", "c"), [])
        self.assertEqual(classes(store), [["a"], ["b"], ["c"]])
        self.assertEqual(store, three())


if __name__ == "__main__":
    unittest.main()
