"""Points 8, 9, 54 to 61, 84, 86 to 91: live houses."""

from random import Random

from actasone.errors import InvalidEvent, NothingToUndo
from actasone.guarded import Guarded
from actasone.inruns import height_in, learned_in, state_in, votes_in
from actasone.live import LiveHouses
from actasone.looksinruns import looks_in
from actasone.oneness import first_break, run_is_one, run_row
from tests import plain, plainlines, plainruns
from tests import plainclocks as plainly
from tests.cases import Case
from tests.drawnruns import BOOKS, drawn_event, drawn_runs, sleepless_runs
from tests.samples import BOOK, CALM, FOUR, LAMP, LATE, LEASED, LIT, MIXED, NEAR, ODD, PLAIN, SLEPT, SOUND, VOTES, changes_of

FREE = BOOK[:4] + ((),)
WORDS = ('vote', 'learn', 'sleep', 'wake', 'count', 'begin', 'told', 'answer', 'promise', 'says')
CAST = tuple(('vote', 0, house, place, 'on') for house in 'abc' for place in range(13)) + (('vote', 0, 'a', 13, 'on'),)


def begun(book, run, age=0):
    return LiveHouses(book, run[0], run[1], age=age)


def all_told(live):
    """All that live houses tell but for the tally."""
    houses = plain.houses_of(live.book_now[1])
    return [
        live.book_now, live.fall_now, live.setting_now, live.age_now, live.run_now, live.time_now, live.is_one(), live.first_broken(), live.row_told(),
        live.looks(), live.heights(), live.states(), [live.learned(house) for house in houses], [live.votes(house) for house in houses], live.table(),
        [live[house] for house in houses], live.notes(), [live.since(name) for name in live.notes()], live.log(), str(live), len(live), list(live),
    ]


def reason(live, event, more=()):
    """The reason of point 87 behind the events so far and more, told slowly."""
    fall, setting, events = live.run_now
    events += more
    word = plainruns.fault(live.book_now, fall, setting, events + (event,), len(events))
    if word == 'form':
        return 'shape'
    return 'full' if len(events) >= 40 else word


class Live(Case):
    def tells(self, live, told=None):
        """All that it tells is what the functions of the stages ahead tell of its run."""
        book, run, age = live.book_now, live.run_now, live.age_now
        houses = plain.houses_of(book[1])
        self.same(live.is_one(), run_is_one(book, run, age=age))
        self.same(live.first_broken(), first_break(book, run, age=age))
        row = live.row_told()
        self.same(row is None, run_row(book, run, age=age) is None)
        self.same(live.looks(), looks_in(book, run))
        self.same(live.heights(), tuple(height_in(book, run, house) for house in houses))
        self.same(live.states(), tuple(state_in(book, run, house) for house in houses))
        for house in houses:
            self.same([live.learned(house), live.votes(house)], [learned_in(book, run, house), votes_in(book, run, house)])
        self.same(live.time_now, run[2][-1][1] if run[2] else None)
        self.same(live.log(), (('houses', book, run[0], run[1], age),) + run[2])
        self.same([len(live), list(live), tuple(live)], [len(run[2]), list(run[2]), run[2]])
        self.same(str(live), ' / '.join([plainlines.line(event) for event in run[2]]) or '-')
        self.same(live.table(), [self.entry(book, run, house) for house in houses])
        self.same([live[house] for house in houses], [self.triple(book, run, house) for house in houses])

    def entry(self, book, run, house):
        if house in run[0]:
            return house + ' lies'
        if plainruns.is_asleep(run[2], house):
            return house + ' sleeps'
        height = plainruns.height(book, run[2], house)
        return house + ' counts' if height is None else f'{house} {height} {plainruns.state(book, run[2], house)}'

    def triple(self, book, run, house):
        if house in run[0]:
            return (False, None, None)
        awake = not plainruns.is_asleep(run[2], house)
        return (awake, plainruns.height(book, run[2], house), plainruns.state(book, run[2], house))

    def stays(self, live, error, fields, call, *args, **named):
        """The call raises this error, and all but the tally stays as it was."""
        before, first = all_told(live), live.tally()
        self.raised(error, fields, call, *args, **named)
        self.same(all_told(live), before)
        return live.tally()[0] - first[0]


class Telling(Live):
    def test_example(self):
        live = LiveHouses(BOOK, (), (0, 0, 0))
        self.same(
            [live.do_all(VOTES[0], VOTES[1], VOTES[2]), live.heights(), live.states(), live.table(), live['a'], live.is_one()],
            [3, (1, 0, 0), (1, 0, 0), ['a 1 1', 'b 0 0', 'c 0 0'], (True, 1, 1), True],
        )
        self.same(
            [live.note('m'), live.begin(1, 'b', 1, 'lit'), live.told(1, 3, 'c', 0), live.answer(1, 3, 0), live.first_broken(), live.undo(),
             len(live.since('m')), live.tally()],
            [3, True, True, False, ('look', 5), ('answer', 1, 3, 0), 2, (5, 5)],
        )

    def test_drawn(self):
        """Event by event, and back."""
        seen = set()
        for runs, age in ((drawn_runs(3), 0), (sleepless_runs(1), 2)):
            for book, run in runs:
                live = begun(book, run, age)
                told = [all_told(live)]
                for event in run[2]:
                    self.same(live.go(event), live.is_one())
                    told.append(all_told(live))
                    seen |= {entry.split(' ', 1)[1] for entry in live.table()}
                self.tells(live)
                for k in range(len(run[2]), 0, -1):
                    self.same(all_told(live), told[k])
                    self.same(live.undo(), run[2][k - 1])
                self.same(all_told(live), told[0])
                self.same(live.tally(), (2 * len(run[2]),) * 2)
                self.stays(live, NothingToUndo, {'steps': 0}, live.undo)
                live.do_all(*run[2])
                self.same(all_told(live), told[-1])
        self.assertGreaterEqual(seen, {'lies', 'sleeps', 'counts', '0 0', '1 1'})

    def test_at_each_moment(self):
        for book, run in list(drawn_runs(1)) + [(BOOK, LATE), (BOOK, PLAIN), (BOOK, LEASED), (BOOK, SLEPT)]:
            live = begun(book, run)
            for event in run[2]:
                live.go(event)
                self.tells(live)

    def test_at_first(self):
        for book, fall, setting, age in ((BOOK, ('c',), (1, 2, 3), 0), (FREE, (), (0, 0, 0), 7), (MIXED, ('a', 'b', 'c'), (-1, 0, 1), 0)):
            live = LiveHouses(book, fall, setting, age=age)
            self.same([live.book_now, live.fall_now, live.setting_now, live.age_now], [book, fall, setting, age])
            self.same([live.run_now, live.time_now, live.is_one(), live.row_told()], [(fall, setting, ()), None, True, ()])
            self.same([live.first_broken(), live.looks(), live.notes(), live.tally(), str(live), len(live), list(live)], [None, (), (), (0, 0), '-', 0, []])
            self.tells(live)

    def test_ages(self):
        for age, wanted in ((0, False), (1, True), (5, True)):
            live = begun(FREE, PLAIN, age)
            self.same([live.go(event) for event in PLAIN[2]], [True] * 5 + [wanted])
            self.same([live.is_one(), live.first_broken(), live.row_told()], [wanted, None if wanted else ('look', 5), ('on',) if wanted else None])
        self.same(LiveHouses(FREE, (), (0, 0, 0)).age_now, 0)

    def test_what_it_tells_is_new(self):
        live = begun(BOOK, PLAIN)
        live.do_all(*PLAIN[2])
        before = all_told(live)
        live.table().append('more')
        list(live).clear()
        self.same(all_told(live), before)
        self.same(live.table() is live.table(), False)

    def test_class_value(self):
        self.same([LiveHouses.MOST, begun(BOOK, PLAIN).MOST], [40, 40])


class Making(Live):
    def test_values_of_other_kinds(self):
        good = {'book': BOOK, 'fall': ('c',), 'setting': (0, 1, 2), 'age': 0}
        bad = {
            'book': ODD + [value for value in changes_of(BOOK) if not plain.is_book(value)][::40] + [BOOK[:4], list(BOOK)],
            'fall': [value for value in ODD if not plain.is_fall(CALM, value)] + [('d',), ('b', 'a'), ['a']],
            'setting': [(0, 0), (0, 0, 0, 0), [0, 0, 0], (0, 0, True), (0, 0, None), (0, 3, 0), (0, -3, 0), ('0', 0, 0), (0, 0, 2.0)] + ODD,
            'age': [value for value in ODD if type(value) is not int or value != 0] + [3, '0', (0,)],
        }
        words = list(good)
        for kind in (LiveHouses, Guarded):
            for k, word in enumerate(words):
                for value in bad[word]:
                    late = {**good, word: value}
                    self.refused(word, kind, **late)
                    self.refused(word, kind, late['book'], late['fall'], late['setting'], age=late['age'])
                    for other in words[k + 1 :]:
                        self.refused(word, kind, **{**late, other: bad[other][-1]})
            with self.assertRaises(TypeError):
                kind(BOOK, (), (0, 0, 0), 0)
            self.same(kind(**good).log(), (('houses', BOOK, ('c',), (0, 1, 2), 0),))

    def test_ages(self):
        for kind in (LiveHouses, Guarded):
            for age in (1, 6):
                self.refused('age', kind, BOOK, (), (0, 0, 0), age=age)
                self.same(kind(FREE, (), (0, 0, 0), age=age).age_now, age)
            for age in [value for value in ODD if not plain.is_number(value)]:
                self.refused('age', kind, FREE, (), (0, 0, 0), age=age)


class Refused(Live):
    def refusals(self, live, event):
        """By go, by the method of its name, by do_all and by tried: the same reason, and all stays."""
        wanted = reason(live, event)
        self.same(live.barred(event), wanted)
        if wanted is None:
            return None
        fields = {'event': event, 'reason': wanted}
        counted = [self.stays(live, InvalidEvent, fields, live.go, event)]
        counted.append(self.stays(live, InvalidEvent, fields, live.do_all, event))
        counted.append(self.stays(live, InvalidEvent, fields, live.do_all, event, keep=True))
        self.same(self.stays(live, InvalidEvent, fields, live.tried, event), 0)
        if type(event) is tuple and event and type(event[0]) is str and event[0] in WORDS and len(event) == len(plainlines.FIELDS[event[0]].split()) + 1:
            counted.append(self.stays(live, InvalidEvent, fields, getattr(live, event[0]), *event[1:]))
            names = plainlines.FIELDS[event[0]].split()
            counted.append(self.stays(live, InvalidEvent, fields, getattr(live, event[0]), **dict(zip(names, event[1:]))))
        self.same(set(counted), {1})
        return wanted

    def test_drawn(self):
        """Of drawn events the one that happens, or is refused, behind drawn runs."""
        random, seen = Random(170), {}
        for book, run in drawn_runs(2, 24, 171):
            live = begun(book, run)
            for event in run[2]:
                for _ in range(4):
                    other = drawn_event(random, book, live.run_now[2], event[1] - random.choice((0, 0, 0, 1)))
                    word = self.refusals(live, other)
                    seen[word] = seen.get(word, 0) + 1
                self.same(live.barred(event), None)
                live.go(event)
        self.assertGreaterEqual(set(seen), {None, 'time', 'house', 'vote', 'learn', 'told', 'promise', 'says', 'answer'}, seen)

    def test_changed_events(self):
        """Values of other kinds, lists, True and False, also within events that can happen."""
        for book, run in ((BOOK, LATE), (BOOK, LEASED), (BOOK, SLEPT)):
            live = begun(book, run)
            for event in run[2]:
                for thing in list(changes_of(event))[::11] + [list(event)]:
                    self.refusals(live, thing)
                live.go(event)
            for thing in ODD:
                self.refusals(live, thing)

    def test_methods_by_name(self):
        """Each method of an event's name does as go does, by position and by name."""
        for run in (LATE, LEASED, SLEPT):
            one, two, three = (begun(BOOK, run) for _ in range(3))
            for event in run[2]:
                told = one.go(event)
                self.same(getattr(two, event[0])(*event[1:]), told)
                self.same(getattr(three, event[0])(**dict(zip(plainlines.FIELDS[event[0]].split(), event[1:]))), told)
                self.assertTrue(one == two == three)
                self.same([two.tally(), three.tally()], [one.tally()] * 2)
        live = begun(BOOK, SLEPT)
        live.do_all(*VOTES)
        self.same([live.sleep(2, 'a'), live.wake(time=2, house='a')], [True, True])

    def test_arguments_of_any_kind(self):
        live = begun(BOOK, PLAIN)
        for word in WORDS:
            many = len(plainlines.FIELDS[word].split())
            for value in (None, [], True, 'a', (), ['a'], 0):
                event = (word,) + (value,) * many
                self.stays(live, InvalidEvent, {'event': event, 'reason': 'shape'}, getattr(live, word), *event[1:])

    def test_full(self):
        """Behind forty events: ahead of all reasons but the shape."""
        live = LiveHouses(BOOK, (), (0, 0, 0))
        self.same(live.do_all(*CAST), 40)
        self.same(live.heights(), (0, 0, 0))
        for event, word in (
            (('vote', 0, 'b', 13, 'on'), 'full'), (('vote', -5, 'a', 0, 'on'), 'full'), (('wake', -5, 'a'), 'full'), (('vote', 0, 'd', 13, 'on'), 'shape'),
            (('told', 0, 0, 'a', 0), 'shape'), (None, 'shape'), (('sleep', True, 'a'), 'shape'), (('sleep', 9, 'a'), 'full'),
        ):
            self.same(reason(live, event), word)
            self.refusals(live, event)
        self.same(live.undo(), CAST[-1])
        self.same(live.barred(('sleep', 9, 'a')), None)
        self.stays(live, InvalidEvent, {'event': ('wake', 9, 'a'), 'reason': 'full'}, live.tried, ('sleep', 9, 'a'), ('wake', 9, 'a'))
        self.stays(live, InvalidEvent, {'event': ('wake', 9, 'a'), 'reason': 'full'}, live.do_all, ('sleep', 9, 'a'), ('wake', 9, 'a'))
        self.same(live.go(('sleep', 9, 'a')), True)

    def test_two_reasons(self):
        """The time ahead of all, then the house, then the word of the event."""
        live = begun(BOOK, PLAIN)
        live.do_all(*PLAIN[2], ('sleep', 2, 'a'))
        for event, word in (
            (('vote', 0, 'd', 0, 'on'), 'shape'), (('learn', 1, 'a', ('a', 'b'), 0, 'on'), 'time'),
            (('learn', 2, 'a', ('a', 'b'), 0, 'on'), 'house'),
            (('wake', 1, 'b'), 'time'), (('wake', 2, 'b'), 'house'), (('vote', 2, 'a', 0, 'off'), 'vote'), (('vote', 1, 'a', 0, 'off'), 'time'),
            (('told', 1, 3, 'c', 0), 'time'), (('told', 2, 3, 'c', 0), 'told'), (('answer', 1, 3, 0), 'time'), (('answer', 2, 3, 0), 'answer'),
            (('says', 0, 'b', 2, 1), 'time'), (('says', 2, 'b', 2, 1), 'says'), (('begin', 2, 'a', 0, 'lit'), 'house'), (('learn', 2, 'b', ('a', 'b'), 0, 'off'), 'learn'),
        ):
            self.same(reason(live, event), word)
            self.same(self.refusals(live, event), word)
        live.promise(2, 'b', 2)
        self.same(self.refusals(live, ('promise', 2, 'b', 2)), 'promise')
        self.same(self.refusals(live, ('promise', 1, 'b', 2)), 'time')


class Deeds(Live):
    def test_tried(self):
        for book, run in drawn_runs(2):
            live = begun(book, run)
            half = len(run[2]) // 2
            live.do_all(*run[2][:half])
            before, first = all_told(live), live.tally()
            self.same(live.tried(), (live.heights(), live.states(), live.is_one()))
            told = live.tried(*run[2][half:])
            self.same(all_told(live), before)
            self.same(live.tally(), first)
            live.do_all(*run[2][half:])
            self.same(told, (live.heights(), live.states(), live.is_one()))
        live = begun(BOOK, PLAIN)
        self.same(live.tried(*PLAIN[2]), ((1, 0, 0), (1, 0, 0), False))

    def test_tried_with_a_wrong_one(self):
        """The first one that is refused, behind those ahead of it."""
        for k in range(len(LATE[2])):
            live = begun(BOOK, LATE)
            events = LATE[2][:k] + LATE[2][k + 1 :]
            late = [reason(live, event, events[:at]) for at, event in enumerate(events)]
            wrong = [at for at, word in enumerate(late) if word is not None]
            if wrong:
                fields = {'event': events[wrong[0]], 'reason': late[wrong[0]]}
                self.same(self.stays(live, InvalidEvent, fields, live.tried, *events), 0)
                self.same(self.stays(live, InvalidEvent, fields, live.do_all, *events), 1)
                self.raised(InvalidEvent, fields, live.do_all, *events, keep=True)
                self.same(live.run_now[2], events[: wrong[0]])
                self.tells(live)
            else:
                self.same(live.do_all(*events), len(events))

    def test_do_all(self):
        for keep in (False, True):
            live = begun(BOOK, LATE)
            self.same(live.do_all(keep=keep), 0)
            self.same(live.do_all(*LATE[2][:4], keep=keep), 4)
            self.same(live.do_all(*LATE[2][4:], keep=keep), 4)
            self.same([live.run_now, live.tally()], [LATE, (3, 3)])
            self.tells(live)

    def test_keep(self):
        """A bool, looked at ahead of the events."""
        live = begun(BOOK, PLAIN)
        live.go(VOTES[0])
        for value in [value for value in ODD if type(value) is not bool] + [[True], 'True', (False,)]:
            for events in ((), (None,), VOTES[1:2]):
                before, first = all_told(live), live.tally()[0]
                self.refused('keep', live.do_all, *events, keep=value)
                self.same(all_told(live), before)
                self.same(live.tally(), (first + 1,) * 2)
        more = (VOTES[1], VOTES[2], VOTES[0], ('sleep', 5, 'a'))
        fields = {'event': VOTES[0], 'reason': 'time'}
        self.stays(live, InvalidEvent, fields, live.do_all, *more)
        self.stays(live, InvalidEvent, fields, live.do_all, *more, keep=False)
        self.raised(InvalidEvent, fields, live.do_all, *more, keep=True)
        self.same(live.run_now[2], VOTES)
        self.same(live.undo(), VOTES[2])
        self.tells(live)

    def test_undo(self):
        live = begun(BOOK, PLAIN)
        self.same(self.stays(live, NothingToUndo, {'steps': 0}, live.undo), 1)
        live.do_all(*LEASED[2])
        self.same([live.undo(), live.undo()], [LEASED[2][5], LEASED[2][4]])
        # What was told, promised and answered is gone with its event.
        self.same(live.barred(('vote', 10, 'b', 0, 'on')), 'vote')
        for event in reversed(LEASED[2][:4]):
            self.same(live.undo(), event)
        self.same(live.barred(('vote', 10, 'b', 0, 'on')), None)
        self.stays(live, NothingToUndo, {'steps': 0}, live.undo)
        self.same(live.tally(), (9, 9))

    def test_undo_and_other_events(self):
        random = Random(172)
        for book, run in drawn_runs(1, 30, 173):
            live, events = begun(book, run), []
            for event in run[2]:
                for _ in range(random.choice((0, 0, 1, 2))):
                    if events:
                        self.same(live.undo(), events.pop())
                if live.barred(event) is None:
                    live.go(event)
                    events.append(event)
                self.same(live.run_now[2], tuple(events))
            self.tells(live)

    def test_tally(self):
        """Each call of an event, undo and do_all counts once in both, also with an error; nothing else does."""
        live = begun(BOOK, PLAIN)
        many = 0
        for deed in (
            lambda: live.go(VOTES[0]), lambda: live.go(VOTES[0]), lambda: live.go(None), lambda: live.vote(0, 'b', 0, 'on'),
            lambda: live.vote(0, 'b', 0, 'on'), lambda: live.undo(), lambda: live.do_all(), lambda: live.do_all(VOTES[1], VOTES[2]),
            lambda: live.do_all(None, keep=True), lambda: live.do_all(keep=1), lambda: live.sleep(9, 'a'), lambda: live.wake(9, 'a'),
            lambda: live.count(9, 'a', 0, 0, 0), lambda: live.begin(9, 'a', 0, 'lit'), lambda: live.told(9, 5, 'a', 1), lambda: live.answer(9, 5, 0),
            lambda: live.promise(9, 'b', 2), lambda: live.says(9, 'b', 2, 1), lambda: live.learn(1, 2, 3, 4, 5),
        ):
            try:
                deed()
            except ValueError:
                pass
            many += 1
            self.same(live.tally(), (many, many))
            for call in (
                lambda: live.barred(None), lambda: live.tried(('wake', 9, 'b')), lambda: live.tried(), lambda: live.note('x'), lambda: live.note(''),
                lambda: live.since('zz'), lambda: all_told(live), lambda: live['d'], lambda: live.learned('d'), lambda: VOTES[0] in live,
                lambda: live == live, lambda: live.tally(),
            ):
                try:
                    call()
                except ValueError:
                    pass
            self.same(live.tally(), (many, many))
        while len(live) > 0:
            live.undo()
            many += 1
        with self.assertRaises(NothingToUndo):
            live.undo()
        self.same(live.tally(), (many + 1, many + 1))


class Notes(Live):
    def test_moments(self):
        live = begun(BOOK, PLAIN)
        self.same([live.notes(), live.note('z'), live.notes(), live.since('z')], [(), 0, ('z',), ()])
        live.do_all(*VOTES)
        self.same([live.note('m'), live.note('a'), live.notes()], [3, 3, ('a', 'm', 'z')])
        live.sleep(4, 'c')
        self.same([live.since('z'), live.since('m'), live.since(name='a')], [VOTES + (('sleep', 4, 'c'),), (('sleep', 4, 'c'),), (('sleep', 4, 'c'),)])
        self.same(live.note(name='q'), 4)
        # The moment is behind the event that is taken back.
        live.undo()
        self.same([live.notes(), live.since('m')], [('a', 'm', 'z'), ()])
        live.sleep(5, 'b')
        self.same([live.notes(), live.since('m'), live.note('q')], [('a', 'm', 'z'), (('sleep', 5, 'b'),), 4])
        live.undo()
        live.undo()
        self.same([live.notes(), live.note('m')], [('z',), 2])
        live.undo()
        live.undo()
        self.same([live.notes(), live.since('z'), live.tally()], [('z',), (), (8, 8)])

    def test_names(self):
        live = begun(BOOK, PLAIN)
        for name in [value for value in ODD if not plain.is_name(value)] + [['a'], ('a',), 'abcdefghi', 'any', 'A', '', 'a b']:
            self.refused('name', live.note, name)
            self.refused('name', live.since, name)
        for name in ('a', 'abcdefgh', 'anyx', 'on'):
            self.refused('name', live.since, name)
            self.same(live.note(name), 0)
            self.refused('name', live.note, name)
        self.same(live.notes(), ('a', 'abcdefgh', 'anyx', 'on'))

    def test_with_do_all(self):
        """What falls back to where a name stands keeps it; the events ahead are the same again."""
        for keep in (False, True):
            live = begun(BOOK, PLAIN)
            live.do_all(*VOTES[:2])
            live.note('m')
            with self.assertRaises(InvalidEvent):
                live.do_all(VOTES[2], None, keep=keep)
            self.same([live.notes(), live.since('m')], [('m',), VOTES[2:] if keep else ()])
            with self.assertRaises(InvalidEvent):
                live.tried(VOTES[2], None)
            self.same(live.notes(), ('m',))

    def test_no_log(self):
        live = begun(BOOK, PLAIN)
        live.note('m')
        self.assertTrue(live == begun(BOOK, PLAIN))
        self.same(live.log(), begun(BOOK, PLAIN).log())


class Signs(Live):
    def test_houses(self):
        live = begun(BOOK, (('c',), (0, 0, 0)))
        live.do_all(*VOTES, ('sleep', 2, 'b'))
        self.same([live['a'], live['b'], live['c']], [(True, 1, 1), (False, None, None), (False, None, None)])
        self.same(live.table(), ['a 1 1', 'b sleeps', 'c lies'])
        self.same([live.heights(), live.states()], [(1, None, None), (1, None, None)])
        live.do_all(('sleep', 2, 'a'), ('count', 2, 'a', 0, 1, 0))
        self.same([live['a'], live.table()[0], live.heights()], [(True, None, None), 'a counts', (None, None, None)])
        for house in [value for value in ODD if type(value) is not str or value not in ('a', 'b', 'c')] + ['d', 'A', ['a'], ('a',), 0]:
            for call in (lambda house: live[house], live.learned, live.votes):
                self.refused('house', call, house)
        self.same([live.learned(house='a'), live.votes(house='a')], [(), ((0, 'on'),)])

    def test_in(self):
        live = begun(BOOK, LATE)
        self.same(VOTES[0] in live, False)
        live.do_all(*LATE[2])
        for event in LATE[2]:
            self.same(event in live, True)
            for thing in changes_of(event):
                self.same(thing in live, plain.told(thing) in [plain.told(late) for late in LATE[2]])
        for thing in ODD + [live, [VOTES[0]], VOTES, list(VOTES[0])]:
            self.same(thing in live, False)

    def test_equal(self):
        one, two = begun(BOOK, LATE), begun(BOOK, LATE)
        self.same([one == two, one != two, one == one], [True, False, True])
        one.go(VOTES[0])
        self.same([one == two, two == one, one != two], [False, False, True])
        two.vote(0, 'a', 0, 'on')
        one.note('x')
        self.same([one == two, one == one.log(), one == None, one == list(one)], [True, False, False, False])
        for other in (
            LiveHouses(BOOK, ('c',), (0, 0, 0)), LiveHouses(BOOK, (), (0, 0, 1)), LiveHouses(FREE, (), (0, 0, 0)), LiveHouses(FREE, (), (0, 0, 0), age=1),
            LiveHouses(SOUND, (), (0, 0, 0)),
        ):
            self.same([other == LiveHouses(BOOK, (), (0, 0, 0)), other == other], [False, True])
        guarded = Guarded(BOOK, (), (0, 0, 0))
        guarded.go(VOTES[0])
        self.same([one == guarded, guarded == one, guarded != one], [True, True, False])
        for value in ODD:
            self.same(one == value, False)

    def test_iterating_stays(self):
        """What is gone through is what there was when it began."""
        live = begun(BOOK, PLAIN)
        live.do_all(*VOTES)
        seen = []
        for event in live:
            seen.append(event)
            live.sleep(9, 'abc'[len(seen) - 1])
        self.same(seen, list(VOTES))
        self.same(len(live), 6)


class Large(Live):
    def test_five_houses(self):
        trust = tuple((house, (('a', 'b', 'c', 'd'), ('b', 'c', 'd', 'e')), ((),)) for house in 'abcde')
        book = (LAMP, trust, (), (('a', LIT, ('b', 'c'), 'any', ()),) * 6, (('a', 8),) * 4)
        live = LiveHouses(book, (), (0,) * 5)
        events = tuple(('vote', place, house, place, 'on') for place in range(7) for house in 'abcd')
        live.do_all(*events, *[('learn', 9, 'e', ('a', 'b', 'c', 'd'), place, 'on') for place in range(7)])
        self.tells(live)
        self.same(live.heights(), (0, 0, 0, 0, 7))

    def test_drawn_books(self):
        random = Random(174)
        for name, book in BOOKS.items():
            live = LiveHouses(book, (), self.setting(book))
            time = 0
            for _ in range(150):
                time += random.random() < 0.2
                event = drawn_event(random, book, live.run_now[2], time)
                if live.barred(event) is None:
                    live.go(event)
            self.tells(live)
            self.assertGreater(len(live), 9, name)

    def setting(self, book):
        houses = plain.houses_of(book[1])
        setting = (0,) * len(houses)
        self.assertTrue(plainly.keeps(houses, book[2], setting))
        return setting

    def test_four(self):
        """FOUR, with a house that lies."""
        live = LiveHouses((LAMP, FOUR, NEAR, (('a', LIT, ('b', 'c', 'd'), 'any', ()),), ()), ('d',), (0, 0, 0, 5), age=1)
        self.same(live.table(), ['a 0 0', 'b 0 0', 'c 0 0', 'd lies'])
        self.same(live.vote(0, 'a', 0, 'on'), True)
        self.stays(live, InvalidEvent, {'event': ('vote', 0, 'd', 0, 'on'), 'reason': 'house'}, live.vote, 0, 'd', 0, 'on')
        self.same([live.vote(0, 'b', 0, 'on'), live.learn(1, 'a', ('a', 'b', 'd'), 0, 'on')], [True, True])
        self.same([live.table()[0], live.log()[0][4]], ['a 1 1', 1])
