"""Whether a told run is as one, and the rows of letters that show it."""

from actasone.looksinruns import looks_of
from actasone.machineparts import answer_at
from actasone.runchecker import followed
from actasone.usable import need_age


def run_is_one(book, run, *, age=0):
    return row_of(followed_with(book, run, age), age) is not None


def run_row(book, run, *, age=0):
    return row_of(followed_with(book, run, age), age)


def first_break(book, run, *, age=0):
    return break_of(followed_with(book, run, age), age)


def followed_with(book, run, age):
    """What the run has come to at its end; refuses a book, a run or an age that are none."""
    told = followed(book, run)
    need_age(book, age)
    return told


def row_of(told, age):
    """A row with which what a run has come to is as one, None without one."""
    return row_behind(told, len(told.happened), age)


def break_of(told, age):
    """The kind and the index of the event with which the run was no more as one, or None."""
    words = {"learn": "learned", "answer": "look"}
    for index, event in enumerate(told.happened):
        if event[0] in words and row_behind(told, index + 1, age) is None:
            return (words[event[0]], index)
    return None


def row_behind(told, many, age):
    """A row with which the first so many events are as one, None without one."""
    letters = letters_behind(told, many)
    if letters is None:
        return None
    looks = [look for look in looks_of(told) if look[0] < many]
    return row_through(told.book[0], letters, looks, age, length_behind(told, many))


def letters_behind(told, many):
    """What safe houses learned by the first so many events, by place; None for unlike letters."""
    letters = {}
    for event in told.happened[:many]:
        if event[0] == "learn" and event[2] in told.safe:
            _, _, _, _, place, letter = event
            if letters.get(place, letter) != letter:
                return None
            letters[place] = letter
    return letters


def length_behind(told, many):
    """How long a row has to be for the first so many events."""
    heights = told.heights_ahead + [told.greatest_height()]
    learned = [event for event in told.happened[:many] if event[0] == "learn" and event[2] in told.safe]
    return max([heights[many]] + [event[4] + 1 for event in learned])


def row_through(machine, letters, looks, age, length):
    """A row of this length with these letters at their places, that answers these looks, or None.

    Of a beginning of it only its state counts, and which looks are open: so each layer, which
    tells how the beginnings with a letter more came, stays small.
    """
    first = open_looks(machine, looks, age, 0, 0, ())
    layers = [{} if first is None else {(0, first): None}]
    for place in range(length):
        here = (letters[place],) if place in letters else machine[0]
        layers.append(next_layer(machine, looks, age, place + 1, here, layers[-1]))
    return row_back(layers)


def next_layer(machine, looks, age, place, letters, layer):
    late = {}
    for state, left in layer:
        for letter in letters:
            lead = machine[2][state][machine[0].index(letter)]
            still = open_looks(machine, looks, age, place, lead, left)
            if still is not None:
                late[(lead, still)] = (state, left, letter)
    return late


def open_looks(machine, looks, age, place, state, left):
    """The indexes of the looks that still wait for their answer behind a beginning of a row.

    It has so many letters, comes to this state, and those left were open ahead of its last
    letter. None if one of them can wait no longer.
    """
    begun = tuple(k for k, look in enumerate(looks) if max(0, look[4] - age) == place)
    still = tuple(k for k in left + begun if answer_at(machine, state, looks[k][2]) != looks[k][3])
    return None if any([looks[k][5] == place for k in still]) else still


def row_back(layers):
    """The letters by which the last layer was come to, None if nothing came there."""
    if layers[-1] == {}:
        return None
    key = list(layers[-1])[0]
    row = []
    for layer in reversed(list(layers[1:])):
        state, left, letter = layer[key]
        row.append(letter)
        key = (state, left)
    return tuple(reversed(list(row)))
