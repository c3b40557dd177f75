"""Points 22, 85, 93: events and logs as lines, read again, and replayed."""

from actasone.errors import InvalidEvent
from actasone.eventreadings import read_event, read_log
from actasone.eventtexts import event_line, log_lines
from actasone.guarded import Guarded
from actasone.live import LiveHouses
from actasone.replaying import is_log, replayed
from actasone.texts import book_text
from tests import plain, plainlines, plainruns
from tests import plainclocks as plainly
from tests.cases import Case
from tests.drawnbooks import drawn_books
from tests.drawnruns import drawn_runs, sleepless_runs
from tests.samples import BOOK, CALM, DIGITS60, LAMP, LATE, LEASED, LIT, NEAR, ODD, PLAIN, SMALL, TURN, VOTES, changes_of, set_in
from tests.test_liveevents import EVENTS, is_one

FREE = BOOK[:4] + ((),)
BEGIN = ('houses', BOOK, (), (0, 0, 0), 0)
LOG = (BEGIN,) + PLAIN[2]
AGED = (('houses', FREE, ('b', 'c'), (0, -1, 1), 3),) + EVENTS
# Words that can stand in no place, or in some.
WORDS = ['', '-', 'any', '0', '1', '7', '-1', '00', '01', '+1', '-0', '--1', '1.0', 'a', 'b', 'c', 'z', 'A', 'a,b', 'b,a', 'a,a', 'a,', ',a', 'a,b,c', 'abcdefghi',
         'on', 'lit', 'fall', 'setting', 'age', 'vote', str(DIGITS60), '-' + str(DIGITS60), '1' + '0' * 60, '-1' + '0' * 60, 'a\n', '\n', '\t', '1e3', '3\u00b2']


def changed_lines(line):
    """The line with one word changed, left out, doubled, emptied, more, or further apart."""
    words = line.split(' ')
    for k in range(len(words)):
        yield ' '.join(words[:k] + words[k + 1 :])
        yield ' '.join(words[: k + 1] + words[k:])
        yield ' '.join(words[:k] + [''] + words[k:])
        for word in WORDS + [words[k] + '1', words[k].upper(), words[k][:-1], words[k] + ',']:
            yield ' '.join(words[:k] + [word] + words[k + 1 :])
    for word in WORDS:
        yield line + ' ' + word
    yield ' ' + line
    yield line + '  '
    yield line + '\n'
    yield '\n' + line


def is_log_of(value):
    """What a log is, told plainly."""
    if type(value) is not tuple or not value or not plain.is_tuple(value[0], 5):
        return False
    word, book, fall, setting, age = value[0]
    if type(word) is not str or word != 'houses' or not plain.is_book(book) or not plain.is_fall(book[1], fall):
        return False
    if not plain.is_tuple(setting, len(book[1])) or not all(map(plain.is_integer, setting)):
        return False
    if not plainly.keeps(plain.houses_of(book[1]), book[2], setting) or not plain.is_number(age) or age > 0 and book[4] != ():
        return False
    return all(is_one(event) for event in value[1:])


class Events(Case):
    def test_example(self):
        self.same([event_line(VOTES[2]), read_event('told -1 3 c 0')], ['learn 1 a a,b 0 on', ('told', -1, 3, 'c', 0)])

    def test_written_and_read(self):
        for event in EVENTS:
            line = event_line(event)
            self.same(line, plainlines.line(event))
            self.same(read_event(line), event)
            self.same(event_line(read_event(line)), line)
        for _, run in drawn_runs(3):
            for event in run[2]:
                self.same(read_event(event_line(event)), event)

    def test_lines(self):
        self.same([event_line(event) for event in EVENTS[:4]], ['vote -3 a 0 on', 'learn 1 b a,b 11 off', 'sleep 0 abcdefgh', 'wake 2 c'])
        self.same(event_line(EVENTS[5]), f'begin {DIGITS60} a 0 lit')

    def test_changed(self):
        """Of each text the value, or the first word that cannot stand or is missing."""
        seen = {True: 0, False: 0}
        for event in EVENTS:
            for text in changed_lines(event_line(event)):
                wanted = plainlines.event(text)
                if isinstance(wanted, list):
                    self.same(read_event(text), wanted[0])
                else:
                    self.unread(*wanted, read_event, text)
                seen[isinstance(wanted, list)] += 1
        self.assertGreater(min(seen.values()), 100)

    def test_fixed(self):
        for text, field in (
            ('', 0), (' ', 0), ('vote', 1), ('vote ', 1), ('vote 0', 2), ('vote 0 a 0', 4), ('vote 0 a 0 on ', 5), ('vote 0 a 0 on off', 5),
            ('vote  0 a 0 on', 1), ('Vote 0 a 0 on', 0), ('vote 0 any 0 on', 2), ('vote 0 a -1 on', 3), ('vote 00 a 0 on', 1), ('vote 0 a 0 on\n', 4),
            ('vote\n0 a 0 on', 0), ('learn 0 a - 0 on', 3), ('learn 0 a b,a 0 on', 3), ('learn 0 a a,,b 0 on', 3), ('learn 0 a a, 0 on', 3), ('fall a', 0),
            ('sleep 0 a b', 3), ('answer 0 -0 0', 2), ('answer 0 0', 3), ('houses', 0), ('undo', 0), ('wake 1' + '0' * 60 + ' a', 1),
        ):
            self.unread(0, field, read_event, text)
        self.same(read_event(text='vote -1 zz 0 a'), ('vote', -1, 'zz', 0, 'a'))

    def test_no_events_and_no_strings(self):
        for value in ODD + [list(EVENTS[0]), ('vote', True, 'a', 0, 'on'), ('vote', 0, 'a', 0, 'On')]:
            self.refused('event', event_line, value)
            self.refused('event', event_line, event=value)
        for value in [value for value in ODD if type(value) is not str] + [['vote 0 a 0 on'], ('sleep 0 a',)]:
            self.refused('text', read_event, value)
            self.refused('text', read_event, text=value)


class Logs(Case):
    def test_written_and_read(self):
        for runs, ages in ((drawn_runs(3), (0,)), (sleepless_runs(2), (0, 5, DIGITS60))):
            for book, run in runs:
                for age in ages:
                    log = (('houses', book, run[0], run[1], age),) + run[2]
                    lines = log_lines(log)
                    self.same(lines[: -3 - len(run[2])], book_text(book).split('\n'))
                    self.same(lines[len(lines) - len(run[2]) :], [plainlines.line(event) for event in run[2]])
                    self.same(read_log(lines), log)
                    self.same(log_lines(read_log(lines)), lines)
        for log in (LOG, AGED, (BEGIN,)):
            self.same(read_log(log_lines(log)), log)
            self.same(is_log(log), True)

    def test_lines(self):
        self.same(log_lines((BEGIN,))[-3:], ['fall -', 'setting 0 0 0', 'age 0'])
        self.same(log_lines(AGED)[-13:-9], ['fall b,c', 'setting 0 -1 1', 'age 3', 'vote -3 a 0 on'])
        lines = log_lines(log=LOG)
        lines.append('more')
        self.same(log_lines(LOG), lines[:-1])

    def judge(self, lines):
        wanted = plainlines.log(lines)
        if isinstance(wanted, list):
            self.same(read_log(lines), wanted[0])
        else:
            self.unread(*wanted, read_log, lines)
        return isinstance(wanted, list)

    def test_changed_words(self):
        seen = {True: 0, False: 0}
        for log in (LOG, AGED):
            lines = log_lines(log)
            first = len(lines) - len(log) - 2
            for k in range(first, len(lines)):
                for line in changed_lines(lines[k]):
                    if '\n' not in line:
                        seen[self.judge(lines[:k] + [line] + lines[k + 1 :])] += 1
        self.assertGreater(min(seen.values()), 300)

    def test_changed_lines(self):
        """Lines left out, doubled, turned, empty; and those of the book, too."""
        for log in (LOG, AGED):
            lines = log_lines(log)
            for k in range(len(lines) + 1):
                self.judge(lines[:k])
                self.judge(lines[k:])
                self.judge(lines[:k] + [''] + lines[k:])
                self.judge(lines[:k] + lines[k + 1 :])
                self.judge(lines[: k + 1] + lines[k:])
                self.judge(lines[:k] + lines[k : k + 2][::-1] + lines[k + 2 :])
                for more in ('fall', 'fall -', 'setting 0 0 0', 'age 0', 'wake 0 a', 'gap a b 2', 'undo'):
                    self.judge(lines[:k] + [more] + lines[k:])

    def test_missing_lines(self):
        lines = log_lines((BEGIN,))
        many = len(lines)
        self.unread(0, 0, read_log, [])
        self.unread(0, 0, read_log, [''])
        self.unread(0, 0, read_log, lines[-3:])
        for k in (1, 2, 3):
            self.unread(many - k, 0, read_log, lines[: many - k])
        self.unread(2, 0, read_log, lines[:2])
        self.unread(4, 0, read_log, lines[:4] + lines[-3:])

    def test_fall_setting_and_age(self):
        lines = log_lines((BEGIN,))
        at = len(lines) - 3
        for k, line, field in (
            (0, 'fall', 1), (0, 'fall ', 1), (0, 'fall d', 1), (0, 'fall b,a', 1), (0, 'fall a,d', 1), (0, 'fall a b', 2), (0, 'fall - ', 2),
            (1, 'setting', 1), (1, 'setting 0 0', 3), (1, 'setting 0 0 0 0', 4), (1, 'setting 0 9 0', 0), (1, 'setting 0 9 0 x', 4), (1, 'setting 0 x', 2),
            (1, 'setting 0 9 x', 3), (1, 'set 0 0 0', 0), (1, '', 0), (2, 'age', 1), (2, 'age 1', 1), (2, 'age 1 1', 1), (2, 'age 0 1', 2), (2, 'age -1', 1),
            (2, 'age 00', 1), (2, 'Age 0', 0), (2, 'vote 0 a 0 on', 0), (1, 'age 0', 0), (1, 'fall -', 0),
        ):
            late = lines[: at + k] + [line] + lines[at + k + 1 :]
            self.unread(at + k, field, read_log, late)
            self.same(plainlines.log(late), (at + k, field))
        free = log_lines((('houses', FREE, (), (0, 0, 0), 0),))
        self.same(read_log(free[:-1] + ['age 999'])[0][4], 999)
        self.unread(len(free) - 1, 2, read_log, free[:-1] + ['age 999 '])

    def test_the_first_fall(self):
        """The book's lines are those ahead of the first line that begins with fall."""
        lines = log_lines(LOG)
        at = lines.index('fall -')
        self.unread(at + 1, 0, read_log, lines[: at + 1] + lines[at:])
        self.unread(2, 2, read_log, lines[:3] + ['fall'] + lines[3:])
        self.unread(2, 0, read_log, lines[:2] + ['fall x'])
        self.unread(len(lines), 0, read_log, lines + ['fallen 0 a'])
        gaps = [line.replace('gap a b 2', 'gap a b 9') for line in lines]
        self.unread(lines.index('gap a b 2'), 0, read_log, gaps)

    def test_events_need_not_be_possible(self):
        for events in (EVENTS, (('answer', 0, 99, 5),), (('vote', 0, 'zz', 0, 'zz'),) * 60, PLAIN[2][::-1]):
            log = (BEGIN,) + tuple(events)
            self.same(is_log(log), True)
            self.same(read_log(log_lines(log)), log)

    def test_long_integers(self):
        for number in (DIGITS60, -DIGITS60, DIGITS60 + 1, -DIGITS60 - 1, 10 ** 80):
            log = (('houses', FREE, (), (number,) * 3, abs(number)), ('wake', number, 'a'))
            lines = log_lines(log)
            if abs(number) <= DIGITS60:
                self.same(read_log(lines), log)
            else:
                self.unread(len(lines) - 3, 1, read_log, lines)
                self.unread(0, 1, read_event, lines[-1])

    def test_no_lists_of_lines(self):
        lines = log_lines(LOG)
        bad = ODD + [tuple(lines), '\n'.join(lines), lines + [None], lines + ['a\nb'], lines[:-1] + [lines[-1] + '\n'], [lines], [1], [('a',)], {'a': 1}]
        for value in bad:
            if not (type(value) is list and all(type(line) is str and '\n' not in line for line in value)):
                self.refused('lines', read_log, value)
                self.refused('lines', read_log, lines=value)
        self.same(read_log(lines=lines), LOG)

    def test_lists_stay(self):
        lines = log_lines(LOG)
        before = list(lines)
        read_log(lines)
        self.same(lines, before)


class Replayed(Case):
    def test_is_log(self):
        seen = {True: 0, False: 0}
        things = ODD + [LOG, AGED, (BEGIN,), list(LOG), (list(BEGIN),), (LIT,) + LOG, BEGIN]
        for log in ((BEGIN,) + PLAIN[2][:3], (('houses', (LAMP, CALM, (), (), ()), ('a',), (4, 5, 6), 2),)):
            things += list(changes_of(log))
        for book in drawn_books(6, seed=160):
            for age in (0, 1):
                things.append((('houses', book, (), (0,) * len(book[1]), age),))
        for thing in things:
            wanted = is_log_of(thing)
            self.same(is_log(thing), wanted)
            self.same(is_log(thing=thing), wanted)
            if not wanted:
                self.refused('log', log_lines, thing)
                self.refused('log', replayed, thing)
            seen[wanted] += 1
        self.assertGreater(min(seen.values()), 20, seen)

    def test_equal(self):
        for book, run in drawn_runs(3):
            log = (('houses', book, run[0], run[1], 0),) + run[2]
            live = replayed(log)
            self.assertIs(type(live), LiveHouses)
            self.same(live.log(), log)
            self.same(live.tally(), (0, 0))
            self.same(live.notes(), ())
            self.same(live.run_now, run)
            self.assertTrue(live == replayed(log=live.log()))
            self.same(live.log(), read_log(log_lines(live.log())))

    def test_the_first_that_is_refused(self):
        for at in range(len(PLAIN[2])):
            log = (BEGIN,) + PLAIN[2][:at] + PLAIN[2][at + 1 :]
            fault = plainruns.lets_run(BOOK, ((), (0, 0, 0), log[1:]))
            if isinstance(fault, tuple):
                reason = 'shape' if fault[0] == 'form' else fault[0]
                self.raised(InvalidEvent, {'event': log[1 + fault[1]], 'reason': reason}, replayed, log)
        self.raised(InvalidEvent, {'event': EVENTS[1], 'reason': 'learn'}, replayed, (BEGIN,) + EVENTS)
        self.raised(InvalidEvent, {'event': EVENTS[2], 'reason': 'shape'}, replayed, (BEGIN,) + EVENTS[2:])

    def test_forty_and_one_more(self):
        votes = tuple(('vote', 0, 'a', place, 'on') for place in range(42))
        self.same(len(replayed((BEGIN,) + votes[:40])), 40)
        self.raised(InvalidEvent, {'event': votes[40], 'reason': 'full'}, replayed, (BEGIN,) + votes)
        self.raised(InvalidEvent, {'event': EVENTS[2], 'reason': 'shape'}, replayed, (BEGIN,) + votes[:40] + (EVENTS[2],))

    def test_of_guarded_ones(self):
        """Also what a Guarded would refuse."""
        guarded = Guarded(BOOK, (), (0, 0, 0))
        guarded.do_all(*PLAIN[2][:5])
        self.assertTrue(replayed(guarded.log()) == guarded)
        self.same(replayed(LOG).is_one(), False)

    def test_ages_and_settings(self):
        for book, fall, setting, age in ((FREE, ('a',), (1, 2, 3), 9), (SMALL, (), (0, 2, 99), 0), ((TURN, CALM, NEAR, (), ()), ('a', 'b', 'c'), (-1, 0, 1), 3)):
            live = replayed((('houses', book, fall, setting, age),))
            self.same([live.book_now, live.fall_now, live.setting_now, live.age_now, len(live)], [book, fall, setting, age, 0])
        for begin in (set_in(BEGIN, (4,), 1), set_in(BEGIN, (3,), (0, 3, 0)), set_in(BEGIN, (3,), (0, 0)), set_in(BEGIN, (2,), ('d',)), set_in(BEGIN, (0,), 'house')):
            self.same(is_log((begin,)), False)
            self.refused('log', replayed, (begin,))

    def test_leased(self):
        for run in (LEASED, LATE):
            live = replayed((BEGIN,) + run[2])
            self.same(live.is_one(), True)
            self.same(live.time_now, run[2][-1][1])
