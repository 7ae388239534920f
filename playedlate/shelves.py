"""Shelves: letters in a line and on a shelf, handled event by event."""

from playedlate.errors import NotNow, TooFar
from playedlate.events import is_event
from playedlate.integers import is_between


class Shelf:
    """The line, the shelf and the standings of the keys, with the events behind them."""

    def __init__(self, store, plan):
        self._store = store
        self._plan = plan
        # Each letter's key and deed, how often its deed was done, how often it failed in the line.
        self._letters = []
        self._times = []
        self._fails = []
        self._line = []
        self._shelved = []
        # For each key all it has gone through, the latest last, so that an event can be taken back:
        # the due standings, and the standings, each with the greatest number of a letter done.
        self._dues = {}
        self._dones = {}
        # Each event with what its letter went through by it (None for one that was sent).
        self._past = []

    def __eq__(self, other):
        # What the past holds beside the events follows from them, so it is the same, too.
        return (
            isinstance(other, Shelf)
            and self._store == other._store
            and self._plan == other._plan
            and self._past == other._past
        )

    @property
    def store(self):
        """The store."""
        return self._store

    @property
    def plan(self):
        """The plan."""
        return self._plan

    @property
    def queued(self):
        """The numbers of the letters in the line."""
        return list(self._line)

    @property
    def shelved(self):
        """The numbers of the letters on the shelf."""
        return list(self._shelved)

    @property
    def quiet(self):
        """Whether there is no letter in the line and none on the shelf."""
        return len(self._line) == 0 and len(self._shelved) == 0

    def standing(self, key):
        """The standing of a key."""
        if key not in self._dones:
            return self._store.standings[0]
        return self._dones[key][-1][0]

    def due(self, key):
        """The standing that a key is due to have."""
        if key not in self._dues:
            return self._store.standings[0]
        return self._dues[key][-1]

    def letter(self, number):
        """The key and the deed of a letter."""
        self._check_number(number)
        return self._letters[number]

    def times(self, number):
        """How often the deed of a letter was done."""
        self._check_number(number)
        return self._times[number]

    def holds(self):
        """Whether some letter in the line is held."""
        keys = self._held_keys()
        # Most often no key is held, and then the line need not be gone through.
        return len(keys) > 0 and any([self._letters[number][0] in keys for number in self._line])

    def do(self, event):
        """Lets an event happen."""
        if not is_event(self._store, event):
            raise NotNow(event)
        if event[0] == "send":
            self._send(event)
        else:
            self._handle(event)

    def undo(self, number):
        """Takes back the last events."""
        there = len(self._past)
        if number > there:
            raise TooFar(there)
        for _ in range(number):
            event, mark = self._past.pop()
            if mark is None:
                self._take_back_send()
            else:
                self._take_back_handling(event, mark)

    def fork(self):
        """A new equal shelf with the same events to take back."""
        other = Shelf(self._store, self._plan)
        other._letters = list(self._letters)
        other._times = list(self._times)
        other._fails = list(self._fails)
        other._line = list(self._line)
        other._shelved = list(self._shelved)
        other._dues = {key: list(row) for key, row in self._dues.items()}
        other._dones = {key: list(row) for key, row in self._dones.items()}
        other._past = list(self._past)
        return other

    def _check_number(self, value):
        if not is_between(value, 0, len(self._letters) - 1):
            raise NotNow(value)

    def _held_keys(self):
        """The keys whose letters in the line are held, as a dict."""
        if self._plan.way == "letter" or not self._shelved:
            return {}
        holding = self._shelved if self._plan.way == "key" else self._line
        return {self._letters[number][0]: True for number in holding}

    def _first_not_held(self):
        """The position of the first letter in the line that is not held, or None."""
        keys = self._held_keys()
        for at, number in enumerate(self._line):
            if self._letters[number][0] not in keys:
                return at
        return None

    def _row(self, word):
        """The row of letters from which an event takes its letter."""
        return self._line if word == "work" else self._shelved

    def _position(self, word):
        """The position in that row of the letter that an event takes, or None."""
        if word == "work":
            return self._first_not_held()
        return 0 if self._shelved else None

    def _send(self, event):
        _, key, deed = event
        start = self._store.standings[0]
        dues = self._dues.setdefault(key, [start])
        dues.append(self._store.lead(dues[-1], [deed]))
        self._dones.setdefault(key, [(start, -1)])
        self._line.append(len(self._letters))
        self._letters.append((key, deed))
        self._times.append(0)
        self._fails.append(0)
        self._past.append((event, None))

    def _handle(self, event):
        word, how = event
        at = self._position(word)
        if at is None:
            raise NotNow(event)
        row = self._row(word)
        number = row[at]
        done = how != "fails" and self._do_deed(number)
        left = how == "done" or (event == ("work", "fails") and self._fail(number))
        if left:
            row.pop(at)
        self._past.append((event, (number, at, done, left)))

    def _do_deed(self, number):
        """Does the deed of a letter, if no guard is against it; returns whether it was done."""
        key, deed = self._letters[number]
        standing, stamp = self._dones[key][-1]
        if "once" in self._plan.guards and self._times[number] > 0:
            return False
        if "stamp" in self._plan.guards and stamp >= number:
            return False
        self._dones[key].append((self._store.lead(standing, [deed]), max(stamp, number)))
        self._times[number] += 1
        return True

    def _fail(self, number):
        """Lets a letter in the line fail; returns whether it went to the shelf for it."""
        self._fails[number] += 1
        if self._fails[number] < self._plan.tries:
            return False
        self._shelved.append(number)
        return True

    def _take_back_send(self):
        key, _ = self._letters.pop()
        self._line.pop()
        self._times.pop()
        self._fails.pop()
        self._dues[key].pop()

    def _take_back_handling(self, event, mark):
        number, at, done, left = mark
        if event == ("work", "fails"):
            self._fails[number] -= 1
            if left:
                self._shelved.pop()
        if left:
            row = self._row(event[0])
            row.insert(at, number)
        if done:
            key, _ = self._letters[number]
            self._dones[key].pop()
            self._times[number] -= 1
