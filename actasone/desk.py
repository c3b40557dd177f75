"""A desk: live houses that are led by rows of words, and answer by such."""

from actasone.errors import InvalidRow, InvalidText
from actasone.eventreadings import read_event, read_log
from actasone.eventtexts import event_line, slashed
from actasone.kinds import is_name
from actasone.live import LiveHouses
from actasone.usable import need


def spaced(parts):
    """These in one row, - for None and without any."""
    return " ".join([word_of(part) for part in parts]) if parts else "-"


def word_of(part):
    return "-" if part is None else str(part)


def heights_row(live):
    return spaced(live.heights())


def states_row(live):
    return spaced(live.states())


def fall_row(live):
    return spaced(live.fall_now)


def time_row(live):
    return word_of(live.time_now)


def one_row(live):
    return "yes" if live.is_one() else "no"


def breaks_row(live):
    return spaced(live.first_broken())


def letters_row(live):
    return spaced(live.row_told())


def table_row(live):
    return slashed(live.table())


def events_row(live):
    return str(live)


def looks_row(live):
    return slashed([":".join([str(part) for part in look]) for look in live.looks()])


def undo_row(live):
    return event_line(live.undo())


ROWS = {
    "heights": heights_row,
    "states": states_row,
    "fall": fall_row,
    "time": time_row,
    "one": one_row,
    "breaks": breaks_row,
    "row": letters_row,
    "table": table_row,
    "events": events_row,
    "looks": looks_row,
    "undo": undo_row,
}


def event_in(row):
    """The event whose line this is, or None."""
    try:
        return read_event(row)
    except InvalidText:
        return None


def begin_in(row):
    """How live houses begin whose log without events has these lines, or None."""
    try:
        log = read_log(row.split("\n"))
    except InvalidText:
        return None
    return log[0] if len(log) == 1 else None


class Desk:
    def __init__(self):
        self._live = None
        # A call that ends with an error is finished, too: one number tells both.
        self._calls = 0

    def say(self, row):
        self._calls = self._calls + 1
        need(isinstance(row, str), "row")
        begin = begin_in(row)
        if begin is not None:
            _, book, fall, setting, age = begin
            self._live = LiveHouses(book, fall, setting, age=age)
            return "ok"
        if self._live is None:
            raise InvalidRow(row)
        event = event_in(row)
        if event is not None:
            return "one" if self._live.go(event) else "broken"
        if row in ROWS:
            teller = ROWS[row]
            return teller(self._live)
        return self.say_more(row)

    def say_more(self, row):
        """The answer to a row of which the first word says what the others are."""
        word, _, rest = row.partition(" ")
        event = event_in(rest)
        if word == "bars" and event is not None:
            return word_of(self._live.barred(event))
        if word == "note" and is_name(rest):
            return str(self._live.note(rest))
        if word == "since" and is_name(rest):
            return slashed([event_line(late) for late in self._live.since(rest)])
        raise InvalidRow(row)

    def counts(self):
        return (self._calls, self._calls)


def say(desk, row):
    need(isinstance(desk, Desk), "desk")
    return desk.say(row)


def counts(desk):
    need(isinstance(desk, Desk), "desk")
    return desk.counts()
