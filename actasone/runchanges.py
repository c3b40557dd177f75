"""Runs that are made of runs."""

from actasone.kinds import are_numbers, ascends, is_integer
from actasone.oneness import followed_with, row_of
from actasone.runchecker import followed, told_of
from actasone.usable import need


def moved(book, run, by):
    followed(book, run)
    need(is_integer(by), "by")
    fall, setting, events = run
    late = tuple((event[0], event[1] + by) + event[2:] for event in events)
    return (fall, tuple(shift + by for shift in setting), late)


def without_events(book, run, indexes):
    followed(book, run)
    need(are_indexes(run[2], indexes), "indexes")
    left = run_without(run, indexes)
    need(told_of(book, left) is not None, "indexes")
    return left


def shortened(book, run, *, age=0):
    need(row_of(followed_with(book, run, age), age) is None, "run")
    short = ()
    late = run
    while late != short:
        short = late
        late = once_shortened(book, short, age)
    return short


def are_indexes(events, thing):
    """Whether any value is a set of indexes of these events."""
    if not isinstance(thing, tuple) or not are_numbers(thing, len(thing)) or not ascends(thing):
        return False
    return thing == () or thing[-1] < len(events)


def run_without(run, indexes):
    """The run without these events; None if one that stays names one of them."""
    fall, setting, events = run
    late = {}
    left = []
    for k, event in enumerate(events):
        if k not in indexes:
            if event[0] in ("told", "answer"):
                if event[2] not in late:
                    return None
                left.append(event[:2] + (late[event[2]],) + event[3:])
            else:
                left.append(event)
            late[k] = len(left) - 1
    return (fall, setting, tuple(left))


def once_shortened(book, run, age):
    """The run without each event, from the last one on, that can still be left out then."""
    short = run
    for k in range(len(run[2]) - 1, -1, -1):
        left = run_without(short, (k,))
        told = told_of(book, left)
        if told is not None and row_of(told, age) is None:
            short = left
    return short
