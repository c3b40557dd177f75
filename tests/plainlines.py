"""Events and logs as lines, told by patterns: a list with the value, or the line and the field."""

import re

from actasone.errors import InvalidText
from actasone.readings import book_read
from tests import plain
from tests import plainclocks as plainly

INTEGER = r'0|-?[1-9][0-9]{0,59}'
NUMBER = r'0|[1-9][0-9]{0,59}'
NAME = r'(?!any$)[a-z]{1,8}'
FIELDS = {
    'vote': 'time house place letter', 'learn': 'time house lot place letter', 'sleep': 'time house', 'wake': 'time house',
    'count': 'time house waking place state', 'begin': 'time house rule look', 'told': 'time begun teller number', 'answer': 'time begun number',
    'promise': 'time house rule', 'says': 'time house rule number',
}


def is_name(word):
    return re.fullmatch(NAME, word) is not None


def value_of(part, word):
    """A list with what the word writes, or None."""
    if part == 'time':
        return [int(word)] if re.fullmatch(INTEGER, word) else None
    if part in ('house', 'letter', 'look', 'teller'):
        return [word] if is_name(word) else None
    if part == 'lot':
        names = word.split(',')
        return [tuple(names)] if all(map(is_name, names)) and names == sorted(set(names)) else None
    return [int(word)] if re.fullmatch(NUMBER, word) else None


def event(text, line=0):
    words = text.split(' ')
    if words[0] not in FIELDS:
        return (line, 0)
    told = [words[0]]
    for field, part in enumerate(FIELDS[words[0]].split(), 1):
        if field == len(words):
            return (line, field)
        value = value_of(part, words[field])
        if value is None:
            return (line, field)
        told += value
    return [tuple(told)] if len(told) == len(words) else (line, len(told))


def log(lines):
    firsts = [line.split(' ')[0] for line in lines]
    at = firsts.index('fall') if 'fall' in firsts else len(lines)
    try:
        book = book_read('\n'.join(lines[:at]))
    except InvalidText as error:
        return (error.line, error.field)
    houses = plain.houses_of(book[1])
    told = ['houses', book]
    for k, (word, reader) in enumerate((('fall', fall), ('setting', setting), ('age', age))):
        if at + k >= len(lines):
            return (len(lines), 0)
        words = lines[at + k].split(' ')
        if words[0] != word:
            return (at + k, 0)
        value = reader(book, houses, words)
        if isinstance(value, int):
            return (at + k, value)
        told += value
    events = []
    for k in range(at + 3, len(lines)):
        value = event(lines[k], k)
        if isinstance(value, tuple):
            return value
        events += value
    return [(tuple(told),) + tuple(events)]


def fall(book, houses, words):
    """A list with the value, or the field that cannot stand."""
    if len(words) < 2:
        return 1
    names = [] if words[1] == '-' else words[1].split(',')
    if not all(name in houses for name in names) or names != sorted(set(names)):
        return 1
    return [tuple(names)] if len(words) == 2 else 2


def setting(book, houses, words):
    shifts = []
    for field in range(1, len(houses) + 1):
        if field >= len(words) or not re.fullmatch(INTEGER, words[field]):
            return field
        shifts.append(int(words[field]))
    if len(words) > len(houses) + 1:
        return len(houses) + 1
    return [tuple(shifts)] if plainly.keeps(houses, book[2], shifts) else 0


def age(book, houses, words):
    if len(words) < 2 or not re.fullmatch(NUMBER, words[1]) or (book[4] and words[1] != '0'):
        return 1
    return [int(words[1])] if len(words) == 2 else 2


def line(value):
    return ' '.join([','.join(part) if isinstance(part, tuple) else str(part) for part in value])
