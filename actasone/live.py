"""Live houses: a run that goes on event by event, and back."""

from actasone.errors import InvalidEvent, NothingToUndo
from actasone.eventtexts import line_of, slashed
from actasone.inruns import cast_by, known_by
from actasone.kinds import house_names, is_name
from actasone.liveevents import is_event, wrong_begin
from actasone.looksinruns import looks_of
from actasone.oneness import break_of, row_of
from actasone.runchecker import Followed, event_fault, gone_on
from actasone.usable import need


class LiveHouses:
    MOST = 40

    def __init__(self, book, fall, setting, *, age=0):
        word = wrong_begin(book, fall, setting, age)
        need(word is None, word)
        self._run = Followed(book, fall, setting)
        self._age = age
        # By the name of a moment, how many events there were.
        self._moments = {}
        # A call that ends with an error is finished, too: one number tells both.
        self._calls = 0

    @property
    def book_now(self):
        return self._run.book

    @property
    def fall_now(self):
        return self._run.fall

    @property
    def setting_now(self):
        return self._run.setting

    @property
    def age_now(self):
        return self._age

    @property
    def run_now(self):
        return (self._run.fall, self._run.setting, self._run.happened)

    @property
    def time_now(self):
        return self._run.happened[-1][1] if self._run.happened else None

    def go(self, event):
        self._calls = self._calls + 1
        self.happen(event)
        return self.is_one()

    def vote(self, time, house, place, letter):
        return self.go(("vote", time, house, place, letter))

    def learn(self, time, house, lot, place, letter):
        return self.go(("learn", time, house, lot, place, letter))

    def sleep(self, time, house):
        return self.go(("sleep", time, house))

    def wake(self, time, house):
        return self.go(("wake", time, house))

    def count(self, time, house, waking, place, state):
        return self.go(("count", time, house, waking, place, state))

    def begin(self, time, house, rule, look):
        return self.go(("begin", time, house, rule, look))

    def told(self, time, begun, teller, number):
        return self.go(("told", time, begun, teller, number))

    def answer(self, time, begun, number):
        return self.go(("answer", time, begun, number))

    def promise(self, time, house, rule):
        return self.go(("promise", time, house, rule))

    def says(self, time, house, rule, number):
        return self.go(("says", time, house, rule, number))

    def is_one(self):
        return row_of(self._run, self._age) is not None

    def first_broken(self):
        return break_of(self._run, self._age)

    def row_told(self):
        return row_of(self._run, self._age)

    def looks(self):
        return looks_of(self._run)

    def heights(self):
        return heights_of(self._run)

    def states(self):
        return states_of(self._run)

    def learned(self, house):
        return known_by(self.copy_at(house))

    def votes(self, house):
        return cast_by(self.copy_at(house))

    def table(self):
        return [f"{house} {self.standing(house)}" for house in self.houses()]

    def barred(self, event):
        return self.reason_behind(self._run, event)

    def tried(self, *events):
        late = self._run
        for event in events:
            need_free(event, self.reason_behind(late, event))
            late = gone_on(late, (event,))
        return (heights_of(late), states_of(late), row_of(late, self._age) is not None)

    def undo(self):
        self._calls = self._calls + 1
        if self._run.happened == ():
            raise NothingToUndo(0)
        event = self._run.happened[-1]
        self.fall_back(len(self._run.happened) - 1)
        return event

    def do_all(self, *events, keep=False):
        self._calls = self._calls + 1
        need(isinstance(keep, bool), "keep")
        many = len(self._run.happened)
        for event in events:
            reason = self.barred(event)
            if reason is not None and not keep:
                self.fall_back(many)
            need_free(event, reason)
            self._run.follow(event)
        return len(events)

    def tally(self):
        return (self._calls, self._calls)

    def note(self, name):
        need(is_name(name) and name not in self._moments, "name")
        self._moments[name] = len(self._run.happened)
        return self._moments[name]

    def since(self, name):
        need(is_name(name) and name in self._moments, "name")
        return self._run.happened[self._moments[name] :]

    def notes(self):
        return tuple(sorted(self._moments))

    def log(self):
        begin = ("houses", self._run.book, self._run.fall, self._run.setting, self._age)
        return (begin,) + self._run.happened

    def __getitem__(self, at):
        copy = self.copy_at(at)
        return (False, None, None) if copy is None else (copy.awake, copy.height(), copy.state_of(self._run.book[0]))

    def __contains__(self, x):
        # Python takes True for 1, which no event has.
        return is_event(x) and x in self._run.happened

    def __len__(self):
        return len(self._run.happened)

    def __iter__(self):
        return iter(self._run.happened)

    def __str__(self):
        return str(slashed([line_of(event) for event in self._run.happened]))

    def __eq__(self, other):
        return isinstance(other, LiveHouses) and self.log() == other.log()

    def houses(self):
        return house_names(self._run.book[1])

    def copy_at(self, house):
        """What the house has come to, None if it lies; refuses what is no house."""
        need(house in self.houses(), "house")
        return self._run.copies.get(house, None)

    def standing(self, house):
        """The words that the table has behind the name of the house."""
        copy = self._run.copies.get(house, None)
        if copy is None:
            return "lies"
        if not copy.awake:
            return "sleeps"
        height = copy.height()
        return "counts" if height is None else f"{height} {copy.state_of(self._run.book[0])}"

    def reason_behind(self, run, event):
        """The reason for which any value is refused behind what a run has come to, or None."""
        fault = event_fault(run, event)
        if fault == "form":
            return "shape"
        return fault if len(run.happened) < self.MOST else "full"

    def happen(self, event):
        """Lets an event happen, and counts nothing."""
        need_free(event, self.barred(event))
        self._run.follow(event)

    def fall_back(self, many):
        """All is as it was when there were so many events."""
        run = self._run
        self._run = gone_on(Followed(run.book, run.fall, run.setting), run.happened[:many])
        self._moments = {name: at for name, at in self._moments.items() if at <= many}


def need_free(event, reason):
    """Refuses the event, unless there is no reason."""
    if reason is not None:
        raise InvalidEvent(event, reason)


def heights_of(run):
    copies = [run.copies.get(house, None) for house in house_names(run.book[1])]
    return tuple(None if copy is None else copy.height() for copy in copies)


def states_of(run):
    copies = [run.copies.get(house, None) for house in house_names(run.book[1])]
    return tuple(None if copy is None else copy.state_of(run.book[0]) for copy in copies)
