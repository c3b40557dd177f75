"""Runs, told slowly: everything is found anew from the events ahead, each time."""

from tests import plain
from tests import plainclocks as plainly
from tests.plain import houses_of, is_integer, is_number, is_tuple


def is_in(things):
    return lambda value: type(value) in (str, tuple) and any(plain.told(value) == plain.told(thing) for thing in things)


def is_index(things):
    return lambda value: is_number(value) and value < len(things)


def is_event(book, ahead, event):
    """Whether any value is an event by form behind these."""
    machine, trust, _, looking, waking = book
    if type(event) is not tuple or len(event) < 3 or type(event[0]) is not str:
        return False
    letter, look, house = is_in(machine[0]), is_in(machine[1]), is_in(houses_of(trust))
    state, rule = is_index(machine[2]), is_index(looking)
    begun = lambda value: is_index(ahead)(value) and type(ahead[value]) is tuple and ahead[value][:1] == ('begin',)
    own_lot = lambda value: is_in(dict((name, lots) for name, lots, _ in trust)[event[2]])(value)
    parts = {
        'vote': (is_integer, house, is_number, letter),
        'learn': (is_integer, house, lambda lot: house(event[2]) and own_lot(lot), is_number, letter),
        'sleep': (is_integer, house),
        'wake': (is_integer, house),
        'count': (is_integer, house, lambda k: is_index(waking)(k) and waking[k][0] == event[2], is_number, state),
        'begin': (
            is_integer, house, lambda k: rule(k) and looking[k][0] == event[2],
            lambda value: look(value) and rule(event[3]) and value in looking[event[3]][1],
        ),
        'told': (is_integer, begun, house, is_number),
        'answer': (is_integer, begun, is_number),
        'promise': (is_integer, house, lambda k: rule(k) and event[2] in dict(looking[k][4])),
        'says': (is_integer, house, lambda k: rule(k) and event[2] in dict(looking[k][4]), is_number),
    }.get(event[0])
    if parts is None or len(event) != len(parts) + 1:
        return False
    # One after the other, as the later ones look at those ahead.
    return all(part(value) for part, value in zip(parts, event[1:]))


def is_run(book, thing):
    if not is_tuple(thing, 3) or not plain.is_fall(book[1], thing[0]) or type(thing[2]) is not tuple:
        return False
    if not is_tuple(thing[1], len(book[1])) or not all(is_integer(shift) for shift in thing[1]):
        return False
    return all(is_event(book, thing[2][:k], event) for k, event in enumerate(thing[2]))


def of_house(events, house, *words):
    return [k for k, event in enumerate(events) if event[0] in words and event[2] == house]


def votes(events, house):
    return {events[k][3]: events[k][4] for k in of_house(events, house, 'vote')}


def is_asleep(events, house):
    told = of_house(events, house, 'sleep', 'wake', 'count')
    return bool(told) and events[told[-1]][0] == 'sleep'


def last_woken(events, house):
    return max(of_house(events, house, 'wake', 'count'), default=-1)


def learned(events, house):
    """What it has learned since it last woke."""
    begin = max(of_house(events, house, 'sleep', 'wake', 'count'), default=-1)
    return {events[k][4]: events[k][5] for k in of_house(events, house, 'learn') if k > begin}


def rows(book, events, house):
    """How many letters it has to have, its first place, its first state, and its letters from there on."""
    many, place, state = 0, 0, 0
    woken = last_woken(events, house)
    if woken >= 0 and events[woken][0] == 'count':
        _, _, _, waking, place, state = events[woken]
        many = book[4][waking][1]
    told = learned(events, house)
    letters = []
    while place + len(letters) in told:
        letters.append(told[place + len(letters)])
    return many, place, state, letters


def height(book, events, house):
    many, place, _, letters = rows(book, events, house)
    if is_asleep(events, house) or len(letters) < many:
        return None
    return place + len(letters)


def state(book, events, house):
    if height(book, events, house) is None:
        return None
    _, _, first, letters = rows(book, events, house)
    return plain.made_of(book[0], first, letters)


def greatest(book, events, house):
    heights = [height(book, events[:k], house) for k in range(len(events) + 1)]
    return max(late for late in heights if late is not None)


def to_tell(events, house):
    return max(votes(events, house), default=-1) + 1


def reading(book, setting, house, time):
    return time - setting[houses_of(book[1]).index(house)]


def fault(book, fall, setting, events, k):
    """The word with which the event k is refused, or None."""
    event, ahead = events[k], events[:k]
    if not is_event(book, ahead, event):
        return 'form'
    if ahead and event[1] < ahead[-1][1]:
        return 'time'
    word = event[0]
    if word not in ('told', 'says', 'answer'):
        if event[2] in fall:
            return 'house'
        if word in ('learn', 'sleep', 'begin') and is_asleep(ahead, event[2]):
            return 'house'
        if word in ('wake', 'count') and not is_asleep(ahead, event[2]):
            return 'house'
    good = {
        'vote': may_vote, 'learn': may_learn, 'told': may_tell, 'promise': may_promise, 'says': may_say, 'answer': may_answer,
    }.get(word)
    return None if good is None or good(book, fall, setting, ahead, event) else word


def may_vote(book, fall, setting, ahead, event):
    _, time, house, place, _ = event
    for k in of_house(ahead, house, 'promise'):
        if reading(book, setting, house, time) < dict(book[3][ahead[k][3]][4])[house]:
            return False
    return place not in votes(ahead, house)


def may_learn(book, fall, setting, ahead, event):
    _, time, house, lot, place, letter = event
    cast = [
        voter in fall or any(late[0] == 'vote' and late[2:] == (voter, place, letter) and late[1] < time for late in ahead) for voter in lot
    ]
    return all(cast) and place not in learned(ahead, house)


def is_over(ahead, begun):
    """Whether the look has been answered, or its house has slept since it began."""
    answered = any(late[0] == 'answer' and late[2] == begun for late in ahead)
    return answered or any(k > begun for k in of_house(ahead, ahead[begun][2], 'sleep'))


def may_tell(book, fall, setting, ahead, event):
    _, _, begun, teller, number = event
    if is_over(ahead, begun) or teller not in book[3][ahead[begun][3]][2]:
        return False
    if any(late[0] == 'told' and late[2:4] == (begun, teller) for late in ahead):
        return False
    return teller in fall or number == to_tell(ahead, teller)


def may_promise(book, fall, setting, ahead, event):
    return not any(late[0] == 'promise' and late[2:] == event[2:] for late in ahead)


def may_say(book, fall, setting, ahead, event):
    _, _, house, rule, number = event
    if house in fall:
        return True
    made = any(late[0] == 'promise' and late[2:] == (house, rule) for late in ahead)
    return made and number == to_tell(ahead, house)


def may_answer(book, fall, setting, ahead, event):
    _, time, begun, number = event
    _, _, house, rule, look = ahead[begun]
    _, _, lot, end, promises = book[3][rule]
    if is_over(ahead, begun):
        return False
    numbers = []
    for teller in lot:
        told = [late[4] for late in ahead if late[0] == 'told' and late[2:4] == (begun, teller)]
        if not told:
            return False
        numbers += told
    for teller, _ in promises:
        told = [ahead[k][4] for k in of_house(ahead, teller, 'says') if ahead[k][3] == rule and k > last_woken(ahead, house)]
        if not told:
            return False
        numbers.append(told[-1])
    high = height(book, ahead, house)
    if high is None or high < greatest(book, ahead, house) or any(high < late for late in numbers):
        return False
    if end != 'any' and reading(book, setting, house, time) > end:
        return False
    return number == plain.answers(book[0], state(book, ahead, house), (look,))[0]


def lets_run(book, thing):
    if not is_tuple(thing, 3) or type(thing[2]) is not tuple:
        return ('shape', -1)
    fall, setting, events = thing
    if not plain.is_fall(book[1], fall):
        return ('fall', -1)
    if not is_tuple(setting, len(book[1])) or not all(is_integer(shift) for shift in setting):
        return ('setting', -1)
    if not plainly.keeps(houses_of(book[1]), book[2], setting):
        return ('setting', -1)
    for k in range(len(events)):
        word = fault(book, fall, setting, events, k)
        if word is not None:
            return (word, k)
    return [len(events)]


def looks(book, run):
    fall, _, events = run
    safe = [house for house in houses_of(book[1]) if plain.is_safe(book[1], house, fall)]
    told = []
    for k, event in enumerate(events):
        if event[0] == 'answer' and events[event[2]][2] in safe:
            _, _, house, _, look = events[event[2]]
            least = max(greatest(book, events[: event[2]], other) for other in safe)
            most = max(greatest(book, events[:k], other) for other in safe)
            told.append((k, house, look, event[3], least, most))
    return tuple(told)


def clash(book, run):
    fall, _, events = run
    known = [
        (k, event[4], event[5]) for k, event in enumerate(events) if event[0] == 'learn' and plain.is_safe(book[1], event[2], fall)
    ]
    pairs = [(j, k) for k, place, letter in known for j, late, other in known if k < j and place == late and letter != other]
    return min(pairs)[::-1] if pairs else None


def length(book, run):
    """How long a row has to be."""
    fall, _, events = run
    safe = [house for house in houses_of(book[1]) if plain.is_safe(book[1], house, fall)]
    places = [event[4] for event in events if event[0] == 'learn' and event[2] in safe]
    return max([greatest(book, events, house) for house in safe] + [place + 1 for place in places] + [0])


def is_row(book, run, row, age, told):
    """Whether a row of letters is one with which the run is as one; told is what looks tells of it."""
    fall, _, events = run
    for event in events:
        if event[0] == 'learn' and plain.is_safe(book[1], event[2], fall) and row[event[4]] != event[5]:
            return False
    for _, _, look, number, least, most in told:
        begins = [row[:k] for k in range(max(0, least - age), most + 1)]
        if not any(plain.answers(book[0], plain.made_of(book[0], 0, begin), (look,)) == [number] for begin in begins):
            return False
    return True


def rows_of_run(book, run, age, more=0):
    """All rows of the length that is asked for, or of more letters, with which it is as one."""
    told = looks(book, run)
    return [row for row in plain.rows_of(book[0], length(book, run) + more) if is_row(book, run, row, age, told)]


def row(book, run, thing, age):
    """What lets_row has to say."""
    fall, _, events = run
    if type(thing) is not tuple or not all(is_in(book[0][0])(letter) for letter in thing):
        return ('shape', -1)
    if len(thing) < length(book, run):
        return ('short', -1)
    for k, event in enumerate(events):
        if event[0] == 'learn' and plain.is_safe(book[1], event[2], fall) and thing[event[4]] != event[5]:
            return ('learned', k)
    told = looks(book, run)
    for look in told:
        if not is_row(book, (fall, run[1], ()), thing, age, (look,)):
            return ('look', look[0])
    return [len(told)]
