"""Points [4] to [8] once more, word by word and slowly, to compare shelves with."""


class Letter:
    def __init__(self, number, key, deed):
        self.number = number
        self.key = key
        self.deed = deed
        self.failed = 0


class Model:
    """A shelf that keeps only what the points name. It does not check events."""

    def __init__(self, store, plan, events=()):
        self.store = store
        self.plan = plan
        self.sent = []
        self.line = []
        self.shelf = []
        # The letters whose deeds have been done, in this sequence.
        self.done = []
        for event in events:
            self.happen(event)

    def held(self, letter):
        if self.plan.way == "key":
            return any(other.key == letter.key for other in self.shelf)
        return self.plan.way == "all" and bool(self.shelf)

    def waits(self):
        return any(self.held(letter) for letter in self.line)

    def possible(self, event):
        if event[0] == "work":
            return not all(self.held(letter) for letter in self.line)
        return event[0] == "send" or bool(self.shelf)

    def happen(self, event):
        assert self.possible(event)
        if event[0] == "send":
            letter = Letter(len(self.sent), event[1], event[2])
            self.sent.append(letter)
            self.line.append(letter)
        elif event[0] == "work":
            self.play([letter for letter in self.line if not self.held(letter)][0], self.line, event[1])
        else:
            self.play(self.shelf[0], self.shelf, event[1])

    def play(self, letter, place, how):
        if how != "fails" and not self.guarded(letter):
            self.done.append(letter)
        if how == "done":
            place.remove(letter)
        if how == "fails" and place is self.line:
            letter.failed += 1
            if letter.failed == self.plan.tries:
                self.line.remove(letter)
                self.shelf.append(letter)

    def guarded(self, letter):
        if "once" in self.plan.guards and letter in self.done:
            return True
        later = [other for other in self.done if other.key == letter.key and other.number >= letter.number]
        return "stamp" in self.plan.guards and bool(later)

    def led(self, letters, key):
        return self.store.lead(self.store.standings[0], [letter.deed for letter in letters if letter.key == key])

    def harmed(self):
        if self.line or self.shelf:
            return False
        seen = [
            (self.store.look(self.led(self.done, letter.key)), self.store.look(self.led(self.sent, letter.key)))
            for letter in self.sent
        ]
        return any(first != second for first, second in seen)

    def told(self, keys):
        """All that a shelf tells, too (below)."""
        return {
            "queued": [letter.number for letter in self.line],
            "shelved": [letter.number for letter in self.shelf],
            "quiet": not self.line and not self.shelf,
            "letters": [(letter.key, letter.deed) for letter in self.sent],
            "times": [self.done.count(letter) for letter in self.sent],
            "standings": [self.led(self.done, key) for key in keys],
            "dues": [self.led(self.sent, key) for key in keys],
        }


def shelf_told(shelf, sent, keys):
    """All that a shelf tells, if so many letters were sent."""
    return {
        "queued": shelf.queued,
        "shelved": shelf.shelved,
        "quiet": shelf.quiet,
        "letters": [shelf.letter(number) for number in range(sent)],
        "times": [shelf.times(number) for number in range(sent)],
        "standings": [shelf.standing(key) for key in keys],
        "dues": [shelf.due(key) for key in keys],
    }


def all_events(store, keys):
    """All events of a store with these keys."""
    hows = ["done", "stops", "fails"]
    events = [("send", key, deed) for key in keys for deed in store.deeds]
    return events + [(word, how) for word in ["work", "replay"] for how in hows]


def walk(store, plan, keys, dice, many):
    """A row of so many events that are possible, in which letters are sent and worked by chance."""
    model = Model(store, plan)
    events = []
    while len(events) < many:
        event = dice.choice(all_events(store, keys))
        if model.possible(event):
            model.happen(event)
            events.append(event)
    return events
