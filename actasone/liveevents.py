"""Whether any value is an event, or a log, by its form."""

from actasone.kinds import are_names, is_age_of, is_book, is_integer, is_name, is_number, is_tuple
from actasone.runchecker import begin_fault
from actasone.runkinds import FORMS


def is_event(thing):
    if not isinstance(thing, tuple) or thing == () or not isinstance(thing[0], str):
        return False
    if thing[0] not in FORMS or len(thing) != 1 + len(FORMS[thing[0]]):
        return False
    return all([is_part_of_event(part, value) for part, value in zip(FORMS[thing[0]], thing[1:])])


def is_part_of_event(part, value):
    """Whether any value can be this part of an event, for whatever book."""
    if part == "time":
        return is_integer(value)
    if part == "lot":
        return are_names(value, 1)
    return is_name(value) if part in ("house", "teller", "letter", "look") else is_number(value)


def wrong_begin(book, fall, setting, age):
    """The first of these with which no live houses can begin, by its name, or None."""
    if not is_book(book):
        return "book"
    fault = begin_fault(book, (fall, setting, ()))
    if fault is not None:
        return fault
    return None if is_age_of(book, age) else "age"


def is_log_of_houses(thing):
    """Whether any value is a log: how live houses began, and events."""
    if not isinstance(thing, tuple) or thing == () or not is_tuple(thing[0], 5):
        return False
    word, book, fall, setting, age = thing[0]
    if word != "houses" or wrong_begin(book, fall, setting, age) is not None:
        return False
    return all([is_event(event) for event in thing[1:]])
