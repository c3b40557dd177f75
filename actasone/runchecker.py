"""Whether what a run tells can happen, and what it makes of the houses, event by event."""

from actasone.falls import safe_houses
from actasone.kinds import house_names, is_tuple
from actasone.machineparts import answer_at, come_to
from actasone.runkinds import are_shifts, is_event_behind, is_fall, until_of
from actasone.settings import keeps
from actasone.usable import need, need_book, need_right


def lets_run(book, thing):
    need_book(book)
    fault = begin_fault(book, thing)
    need_right(fault is None, fault, -1)
    told = Followed(book, thing[0], thing[1])
    for k, event in enumerate(thing[2]):
        fault = event_fault(told, event)
        need_right(fault is None, fault, k)
        told.follow(event)
    return len(thing[2])


def begin_fault(book, thing):
    """The word of the first error that any value has as a run ahead of its events, or None."""
    if not is_tuple(thing, 3) or not isinstance(thing[2], tuple):
        return "shape"
    if not is_fall(book, thing[0]):
        return "fall"
    if not are_shifts(book, thing[1]) or not keeps(book[2], dict(zip(house_names(book[1]), thing[1]))):
        return "setting"
    return None


def followed(book, run):
    """What the run has come to at its end; refuses parameters that are no book and no run of it."""
    need_book(book)
    told = told_of(book, run)
    need(told is not None, "run")
    return told


def told_of(book, thing):
    """What any value has come to at its end as a run of the book, None if it is none."""
    if begin_fault(book, thing) is not None:
        return None
    told = Followed(book, thing[0], thing[1])
    for event in thing[2]:
        if event_fault(told, event) is not None:
            return None
        told.follow(event)
    return told


def gone_on(told, events):
    """What a run has come to, and these events that can happen behind it; told itself stays."""
    late = Followed(told.book, told.fall, told.setting)
    for event in told.happened + events:
        late.follow(event)
    return late


class Copy:
    """What a house that does not lie keeps for ever, and what it has since it last woke."""

    def __init__(self):
        self.cast = {}
        self.untils = {}
        self.greatest = 0
        # The indexes of the events by which it last slept, and last woke.
        self.slept_at = -1
        self.woken_at = -1
        self.awake = True
        # The letters that it learned, by place; they count from a place and a state on, and
        # before there are so many of them there is no height.
        self.known = {}
        self.first_place = 0
        self.first_state = 0
        self.least_many = 0

    def told_number(self):
        """One more than the greatest place at which it has voted."""
        return max(list(self.cast), default=-1) + 1

    def is_bound_at(self, reading):
        """Whether, as its clock reads so, a promise that it has made is not over."""
        return any([reading < until for until in self.untils.values()])

    def counted_letters(self):
        """The letters from its first place on, without a gap."""
        counted = []
        while self.first_place + len(counted) in self.known:
            counted.append(self.known[self.first_place + len(counted)])
        return counted

    def height(self):
        many = len(self.counted_letters())
        return self.first_place + many if self.awake and many >= self.least_many else None

    def state_of(self, machine):
        if self.height() is None:
            return None
        return come_to(machine, self.first_state, self.counted_letters())[-1]

    def vote_at(self, place, letter, time):
        self.cast[place] = (letter, time)

    def promise_for(self, rule, until):
        self.untils[rule] = until

    def learn_at(self, place, letter):
        self.known[place] = letter
        height = self.height()
        if height is not None:
            self.greatest = max(self.greatest, height)

    def sleep_at(self, index):
        self.slept_at = index
        self.awake = False
        self.known = {}

    def wake_at(self, index, place, state, many):
        self.woken_at = index
        self.awake = True
        self.first_place = place
        self.first_state = state
        self.least_many = many


class Followed:
    """A run up to some event, and what it has made of the houses."""

    def __init__(self, book, fall, setting):
        self.book = book
        self.fall = fall
        self.setting = setting
        self.shifts = dict(zip(house_names(book[1]), setting))
        self.safe = safe_houses(book[1], fall)
        self.copies = {house: Copy() for house in house_names(book[1]) if house not in fall}
        self.happened = ()
        # For each event the greatest height that a safe house had ahead of it.
        self.heights_ahead = []
        # By the index of its begin and the teller, what was told for a look; which are answered.
        self.asked = {}
        self.answered = {}
        # By the rule and the house, the index of the last event in which it told for its promise.
        self.said = {}

    def reading(self, house, time):
        return time - self.shifts[house]

    def greatest_height(self):
        """The greatest height that a safe house has had."""
        return max([self.copies[house].greatest for house in self.safe], default=0)

    def follow(self, event):
        """Takes up an event that can happen."""
        index = len(self.happened)
        self.heights_ahead.append(self.greatest_height())
        self.happened = self.happened + (event,)
        if event[0] == "told":
            self.asked[(event[2], event[3])] = event[4]
        elif event[0] == "answer":
            self.answered[event[2]] = True
        elif event[0] == "says":
            self.said[(event[3], event[2])] = index
        else:
            self.change(self.copies[event[2]], index, event)

    def change(self, copy, index, event):
        """What the event makes of the house whose doing it is."""
        if event[0] == "vote":
            copy.vote_at(event[3], event[4], event[1])
        elif event[0] == "learn":
            copy.learn_at(event[4], event[5])
        elif event[0] == "sleep":
            copy.sleep_at(index)
        elif event[0] == "wake":
            copy.wake_at(index, 0, 0, 0)
        elif event[0] == "count":
            copy.wake_at(index, event[4], event[5], self.book[4][event[3]][1])
        elif event[0] == "promise":
            copy.promise_for(event[3], until_of(self.book[3][event[3]], event[2]))


def event_fault(told, event):
    """The word of the first error that an event has behind a run, or None."""
    if not is_event_behind(told.book, told.happened, event):
        return "form"
    if told.happened != () and event[1] < told.happened[-1][1]:
        return "time"
    if event[0] == "told":
        return None if can_tell(told, event) else "told"
    if event[0] == "says":
        return None if can_say(told, event) else "says"
    if event[0] == "answer":
        return None if can_answer(told, event) else "answer"
    if event[2] in told.fall or not is_up_for(told.copies[event[2]], event[0]):
        return "house"
    if event[0] == "vote":
        return None if can_vote(told, event) else "vote"
    if event[0] == "learn":
        return None if can_learn(told, event) else "learn"
    if event[0] == "promise":
        return "promise" if event[3] in told.copies[event[2]].untils else None
    return None


def is_up_for(copy, word):
    """Whether a house is awake, or asleep, as it has to be for an event with this word."""
    if word in ("learn", "sleep", "begin"):
        return copy.awake
    return not copy.awake if word in ("wake", "count") else True


def can_vote(told, event):
    _, time, house, place, _ = event
    copy = told.copies[house]
    return place not in copy.cast and not copy.is_bound_at(told.reading(house, time))


def can_learn(told, event):
    _, time, house, lot, place, letter = event
    if place in told.copies[house].known:
        return False
    for voter in lot:
        if voter not in told.fall:
            vote = told.copies[voter].cast.get(place, None)
            if vote is None or vote[0] != letter or vote[1] >= time:
                return False
    return True


def is_open(told, begun):
    """Whether a look is not answered, and its house has not slept since it began."""
    return begun not in told.answered and told.copies[told.happened[begun][2]].slept_at < begun


def rule_of_look(told, begun):
    return told.book[3][told.happened[begun][3]]


def can_tell(told, event):
    _, _, begun, teller, number = event
    if not is_open(told, begun) or teller not in rule_of_look(told, begun)[2]:
        return False
    return (begun, teller) not in told.asked and is_number_of(told, teller, number)


def is_number_of(told, house, number):
    """Whether the house can tell this number: one that lies can tell any."""
    return house in told.fall or number == told.copies[house].told_number()


def can_say(told, event):
    _, _, house, rule, number = event
    if house not in told.fall and rule not in told.copies[house].untils:
        return False
    return is_number_of(told, house, number)


def can_answer(told, event):
    _, time, begun, number = event
    _, _, house, _, look = told.happened[begun]
    copy = told.copies[house]
    numbers = numbers_for(told, begun)
    height = copy.height()
    if not is_open(told, begun) or None in numbers or height is None:
        return False
    if height < max(numbers + [copy.greatest]):
        return False
    end = rule_of_look(told, begun)[3]
    if end != "any" and told.reading(house, time) > end:
        return False
    machine = told.book[0]
    return number == answer_at(machine, copy.state_of(machine), look)


def numbers_for(told, begun):
    """What the houses of the lot, and those with a promise, told; None for one that did not."""
    rule = told.happened[begun][3]
    woken_at = told.copies[told.happened[begun][2]].woken_at
    numbers = [told.asked.get((begun, teller), None) for teller in rule_of_look(told, begun)[2]]
    for house, _ in rule_of_look(told, begun)[4]:
        index = told.said.get((rule, house), -1)
        numbers.append(told.happened[index][4] if index > woken_at else None)
    return numbers
