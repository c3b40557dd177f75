"""Events and logs read of lines; where a line is none, the first word that cannot stand."""

from actasone.kinds import ascends, house_names, is_age_of, is_name
from actasone.readings import book_read, integer_at, need_end, need_word, number_at, set_at, word_at
from actasone.runkinds import FORMS
from actasone.settings import keeps
from actasone.usable import need


def read_event(text):
    need(isinstance(text, str), "text")
    return event_at(text, 0)


def read_log(lines):
    need(isinstance(lines, list) and all([is_line(line) for line in lines]), "lines")
    falls = [k for k, line in enumerate(lines) if line.split(" ")[0] == "fall"]
    at = falls[0] if falls else len(lines)
    book = book_read("\n".join(lines[:at]))
    fall = fall_at(book, begun_row(lines, at, "fall"), at)
    setting = setting_at(book, begun_row(lines, at + 1, "setting"), at + 1)
    age = age_at(book, begun_row(lines, at + 2, "age"), at + 2)
    events = tuple(event_at(line, at + 3 + k) for k, line in enumerate(lines[at + 3 :]))
    return (("houses", book, fall, setting, age),) + events


def is_line(thing):
    return isinstance(thing, str) and "\n" not in thing


def begun_row(lines, line, word):
    """The words of a line that has to be there, and to begin with this word."""
    need_word(line < len(lines), len(lines), 0)
    row = lines[line].split(" ")
    need_word(row[0] == word, line, 0)
    return row


def fall_at(book, row, line):
    fall = set_at(row, line, 1, house_names(book[1]))
    need_end(row, line, 2)
    return fall


def setting_at(book, row, line):
    names = house_names(book[1])
    setting = tuple(integer_at(row, line, field) for field in range(1, len(names) + 1))
    need_end(row, line, len(names) + 1)
    need_word(keeps(book[2], dict(zip(names, setting))), line, 0)
    return setting


def age_at(book, row, line):
    age = number_at(row, line, 1)
    need_word(is_age_of(book, age), line, 1)
    need_end(row, line, 2)
    return age


def event_at(text, line):
    """The event by form that a line writes."""
    row = text.split(" ")
    need_word(row[0] in FORMS, line, 0)
    parts = tuple(part_of_event(part, row, line, field + 1) for field, part in enumerate(FORMS[row[0]]))
    need_end(row, line, 1 + len(parts))
    return (row[0],) + parts


def part_of_event(part, row, line, field):
    if part == "time":
        return integer_at(row, line, field)
    if part == "lot":
        return lot_at(row, line, field)
    if part in ("house", "teller", "letter", "look"):
        word = word_at(row, line, field)
        need_word(is_name(word), line, field)
        return word
    return number_at(row, line, field)


def lot_at(row, line, field):
    """A nonempty set of any names."""
    names = word_at(row, line, field).split(",")
    need_word(all([is_name(name) for name in names]) and ascends(names), line, field)
    return tuple(names)
