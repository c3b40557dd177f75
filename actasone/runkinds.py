"""Whether any value is a run of a book by its form."""

from actasone.kinds import (
    are_integers,
    house_names,
    is_index,
    is_integer,
    is_number,
    is_set_of,
    is_state,
    is_tuple,
)
from actasone.trustparts import entry_of
from actasone.usable import need_book

# What stands in an event behind its first word.
FORMS = {
    "vote": ("time", "house", "place", "letter"),
    "learn": ("time", "house", "lot", "place", "letter"),
    "sleep": ("time", "house"),
    "wake": ("time", "house"),
    "count": ("time", "house", "waking", "place", "state"),
    "begin": ("time", "house", "rule", "look"),
    "told": ("time", "begun", "teller", "number"),
    "answer": ("time", "begun", "number"),
    "promise": ("time", "house", "promised"),
    "says": ("time", "house", "promised", "number"),
}


def is_run(book, thing):
    need_book(book)
    if not is_tuple(thing, 3) or not is_fall(book, thing[0]) or not are_shifts(book, thing[1]):
        return False
    if not isinstance(thing[2], tuple):
        return False
    return all([is_event_behind(book, thing[2][:k], event) for k, event in enumerate(thing[2])])


def is_fall(book, thing):
    return is_set_of(thing, house_names(book[1]))


def are_shifts(book, thing):
    return are_integers(thing, len(book[1]))


def is_event_behind(book, ahead, thing):
    """Whether any value is an event by form behind these events."""
    if not isinstance(thing, tuple) or thing == () or not isinstance(thing[0], str):
        return False
    if thing[0] not in FORMS or len(thing) != 1 + len(FORMS[thing[0]]):
        return False
    for at, part in enumerate(FORMS[thing[0]]):
        if not is_part(book, ahead, thing, part, thing[at + 1]):
            return False
    return True


def is_part(book, ahead, event, part, value):
    """Whether any value can be this part of the event, whose parts ahead of it are right."""
    machine, trust, _, looking, waking = book
    if part == "time":
        return is_integer(value)
    if part in ("place", "number"):
        return is_number(value)
    if part in ("house", "teller"):
        return value in house_names(trust)
    if part == "letter":
        return value in machine[0]
    if part == "lot":
        return value in entry_of(trust, event[2])[1]
    if part == "state":
        return is_state(machine, value)
    if part == "waking":
        return is_index(value, waking) and waking[value][0] == event[2]
    if part == "rule":
        return is_index(value, looking) and looking[value][0] == event[2]
    if part == "promised":
        return is_index(value, looking) and until_of(looking[value], event[2]) is not None
    if part == "look":
        return value in looking[event[3]][1]
    return is_index(value, ahead) and is_begin(ahead[value])


def is_begin(event):
    return isinstance(event, tuple) and len(event) > 0 and event[0] == "begin"


def until_of(rule, house):
    """The until of the promise of the house for a rule of looking, None without one."""
    untils = [until for name, until in rule[4] if name == house]
    return untils[0] if untils else None
