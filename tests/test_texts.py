"""Points [1] and [6]: texts of rows of events."""

import itertools
import random

from playedlate import texts
from playedlate.errors import BadText
from playedlate.plans import Plan
from playedlate.texts import read_row, row_text
from tests.cases import Case
from tests.model import all_events, walk
from tests.samples import all_plans, flag, largest, late, light, no_events, smallest, three, wrong_values

KEYS = ["k", "l", "abcdefgh"]
LATE = "send k set\nsend k clear\nwork fails\nwork done\nreplay done"


def no_lines():
    """Lines that look like texts of events of the store light, and are none."""
    return [
        "", " ", "  ", "send", "work", "replay", "send k", "send set", "send set k", "send k set set", "send k k set",
        "send  set", "send k  set", "send  k set", " send k set", "send k set ", "send k set  ", "sendk set",
        "sendkset", "send k next", "send k off", "send k se", "send k sett", "send k SET", "send K set", "Send k set",
        "SEND k set", "send k1 set", "send 1 set", "send abcdefghi set", "send k, set", "send,k,set", "send k:set",
        "work", "work ", " work done", "work done ", "work  done", "workdone", "work fail", "work failed", "work Done",
        "Work done", "work done done", "work k done", "work set", "work work", "done work", "done", "play done",
        "replay k", "replay ", "replay done ", "re play done", "send k work", "work replay", "None", "[]", "()",
        "('work', 'done')", "work, done", '"work done"', "work\\ndone", "#", "# work done", "~", "0",
    ]


class ExamplesTest(Case):
    def test_examples(self):
        self.assertEqual(row_text(late()[:3]), "send k set\nsend k clear\nwork fails")
        self.assertEqual(read_row(light(), "replay stops"), [("replay", "stops")])
        self.assertEqual(read_row(light(), ""), [])
        self.assertEqual(self.raised(BadText, read_row, light(), "work done\nsend k next").line, 2)


class InterfaceTest(Case):
    def test_functions_are_defined_in_their_file(self):
        self.check_functions(texts, ["row_text", "read_row"])

    def test_arguments_by_name(self):
        self.assertEqual(row_text(row=late()), LATE)
        self.assertEqual(read_row(text=LATE, store=light()), late())


class TextTest(Case):
    def test_the_empty_row_and_the_empty_text(self):
        self.assertEqual(row_text([]), "")
        for store in [light(), three(), smallest(), largest()]:
            self.assertEqual(read_row(store, ""), [])

    def test_a_line_for_each_event(self):
        self.assertEqual(row_text(late()), LATE)
        for word, how in itertools.product(["work", "replay"], ["done", "stops", "fails"]):
            self.assertEqual(row_text([(word, how)]), word + " " + how)
        self.assertEqual(row_text([("send", "abcdefgh", "stepstep")]), "send abcdefgh stepstep")
        self.assertEqual(row_text([("send", "send", "set"), ("work", "done")]), "send send set\nwork done")

    def test_texts_are_read_back(self):
        dice = random.Random(41)
        for plan in all_plans():
            for store in [light(), three(), flag(), largest(), smallest()]:
                row = walk(store, plan, KEYS, dice, 15)
                for many in range(16):
                    self.assertEqual(read_row(store, row_text(row[:many])), row[:many])
                self.assertEqual(row_text(row).split("\n"), [row_text([event]) for event in row])

    def test_events_need_not_be_possible(self):
        for store in [light(), largest()]:
            for first, second in itertools.product(all_events(store, KEYS[:2]), repeat=2):
                row = [first, second]
                self.assertEqual(read_row(store, row_text(row)), row)

    def test_words_of_events_may_be_keys(self):
        row = [("send", "work", "set"), ("send", "replay", "clear"), ("send", "done", "set"), ("send", "send", "set")]
        self.assertEqual(read_row(light(), row_text(row)), row)

    def test_a_long_text(self):
        row = late() * 5000
        self.assertEqual(read_row(light(), row_text(row)), row)
        self.assertEqual(self.raised(BadText, read_row, light(), row_text(row) + "\nwork").line, 25001)

    def test_kinds_of_answers(self):
        self.assertIs(type(row_text(late())), str)
        row = read_row(light(), LATE)
        self.assertIs(type(row), list)
        for event in row:
            self.assertIs(type(event), tuple)
            self.assertEqual({type(word) for word in event}, {str})


class BadTextTest(Case):
    def refused(self, text, line, store=None):
        found = self.raised(BadText, read_row, store or light(), text).line
        self.assertEqual((type(found), found), (int, line))

    def test_lines_that_are_no_events(self):
        for line in no_lines():
            # Alone, an empty line is the text of the empty row.
            if line != "":
                self.refused(line, 1)
                self.refused(line + "\n" + line, 1)
            for before in range(1, 6):
                lines = LATE.split("\n")
                self.refused("\n".join(lines[:before] + [line] + lines[before:]), before + 1)
                self.refused("\n".join(lines[:before] + [line, line] + lines[before:]), before + 1)
            self.refused(line + "\n" + LATE, 1)
            self.refused(LATE + "\n" + line, 6)

    def test_newlines_stand_between_lines_only(self):
        self.refused("\n", 1)
        self.refused("\n\n", 1)
        self.refused(LATE + "\n", 6)
        self.refused("\n" + LATE, 1)
        self.refused("work done\n\nwork done", 2)
        self.refused("work\ndone", 1)
        self.refused("send k\nset", 1)

    def test_texts_of_values_that_are_no_events(self):
        for value in no_events():
            if isinstance(value, tuple) and value and all(isinstance(word, str) for word in value):
                self.refused(" ".join(value), 1)
                self.refused("work done\n" + " ".join(value), 2)

    def test_deeds_of_the_very_store(self):
        self.refused("send k set", 1, three())
        self.assertEqual(read_row(three(), "send k next"), [("send", "k", "next")])
        self.refused("send k next\nsend k set", 2, three())
        self.refused("send k d\nsend k s", 2, smallest())

    def test_values_that_are_no_strings(self):
        wrong = [late(), [LATE], (LATE,), {LATE: LATE}, ["work done"], ("work", "done"), [], (), {}, 1, 0, None, True]
        for value in wrong_values() + wrong + [light(), Plan("key"), BadText(3), self.raised(BadText, read_row, 1, 2)]:
            if value != "":
                self.refused(value, 1)

    def test_strings_that_are_no_texts(self):
        for value in ["a" * 100000, " " * 100000, "send k " + "a" * 100000, "\n" * 100000, "send " + "k" * 9 + " set"]:
            self.refused(value, 1)


class NothingChangesTest(Case):
    def test_arguments_are_not_changed(self):
        store, row = light(), late()
        row_text(row)
        read_row(store, LATE)
        self.raised(BadText, read_row, store, row)
        self.raised(BadText, read_row, store, [["work done"]])
        self.assertEqual((store, row), (light(), late()))

    def test_what_was_returned_may_be_changed_afterwards(self):
        store = light()
        for text in ["", LATE]:
            kept = list(read_row(store, text))
            row = read_row(store, text)
            row.append("else")
            row.reverse()
            self.assertEqual(read_row(store, text), kept)
