"""Events and logs as lines."""

from actasone.liveevents import is_event, is_log_of_houses
from actasone.texts import book_text, set_word
from actasone.usable import need


def event_line(event):
    need(is_event(event), "event")
    return line_of(event)


def log_lines(log):
    need(is_log_of_houses(log), "log")
    _, book, fall, setting, age = log[0]
    shifts = " ".join([str(shift) for shift in setting])
    begin = [f"fall {set_word(fall)}", f"setting {shifts}", f"age {age}"]
    return book_text(book).split("\n") + begin + [line_of(event) for event in log[1:]]


def line_of(event):
    return " ".join([set_word(part) if isinstance(part, tuple) else str(part) for part in event])


def slashed(words):
    """These in one row, - without any."""
    return " / ".join(words) if words else "-"
