"""The section Stage 32: a desk, row by row."""

from random import Random

from actasone.desk import Desk, counts, say
from actasone.errors import InvalidEvent, InvalidRow, NotUsable, NothingToUndo
from actasone.eventtexts import event_line, log_lines
from actasone.live import LiveHouses
from tests import plain, plainlines
from tests.cases import Case
from tests.drawnruns import BOOKS, drawn_event, drawn_runs
from tests.samples import BOOK, LATE, LEASED, MIXED, ODD, PLAIN, SLEPT, SMALL, VOTES
from tests.test_eventlines import changed_lines
from tests.test_live import CAST, all_told, reason

FREE = BOOK[:4] + ((),)
ROWS = ('heights', 'states', 'fall', 'time', 'one', 'breaks', 'row', 'table', 'events', 'looks')


def opening(book, fall=(), setting=None, age=0):
    return '\n'.join(log_lines((('houses', book, fall, setting or (0,) * len(book[1]), age),)))


def dashed(parts, sign=' '):
    """Several things in one row, - for None and for nothing."""
    words = ['-' if part is None else str(part) for part in parts or ()]
    return sign.join(words) or '-'


def answer(live, row):
    """What a row that asks is answered, by live houses that went the same way."""
    return {
        'heights': lambda: dashed(live.heights()), 'states': lambda: dashed(live.states()), 'fall': lambda: dashed(live.fall_now),
        'time': lambda: dashed([live.time_now]), 'one': lambda: ['no', 'yes'][live.is_one()], 'breaks': lambda: dashed(live.first_broken()),
        'row': lambda: dashed(live.row_told()), 'table': lambda: dashed(live.table(), ' / '),
        'events': lambda: dashed([plainlines.line(event) for event in live], ' / '),
        'looks': lambda: dashed([':'.join(str(part) for part in look) for look in live.looks()], ' / '),
    }[row]()


def opened(run=PLAIN, book=BOOK, age=0):
    desk = Desk()
    desk.say(opening(book, run[0], run[1], age))
    return desk


class Rows(Case):
    def test_example(self):
        desk = Desk()
        rows = (opening(BOOK), 'vote 0 a 0 on', 'bars vote 0 a 0 off', 'undo')
        self.same([desk.say(row) for row in rows], ['ok', 'one', 'vote', 'vote 0 a 0 on'])

    def test_each_row(self):
        desk = opened()
        self.same(
            [desk.say(row) for row in ROWS],
            ['0 0 0', '0 0 0', '-', '-', 'yes', '-', '-', 'a 0 0 / b 0 0 / c 0 0', '-', '-'],
        )
        self.same([desk.say(event_line(event)) for event in PLAIN[2]], ['one'] * 5 + ['broken'])
        self.same(
            [desk.say(row) for row in ROWS],
            [
                '1 0 0', '1 0 0', '-', '1', 'no', 'look 5', '-', 'a 1 1 / b 0 0 / c 0 0',
                'vote 0 a 0 on / vote 0 b 0 on / learn 1 a a,b 0 on / begin 1 b 1 lit / told 1 3 c 0 / answer 1 3 0', '5:b:lit:0:1:1',
            ],
        )
        self.same([desk.say('undo'), desk.say('one'), desk.say('row'), desk.say('looks')], ['answer 1 3 0', 'yes', 'on', '-'])
        self.same([desk.say('note m'), desk.say('since m'), desk.say('sleep 7 a'), desk.say('wake 8 a')], ['5', '-', 'one', 'one'])
        self.same([desk.say('since m'), desk.say('heights'), desk.say('time')], ['sleep 7 a / wake 8 a', '0 0 0', '8'])
        self.same([desk.say('bars sleep 7 a'), desk.say('bars sleep 8 a'), desk.say('bars wake 9 a'), desk.say('bars wake 9 d')], ['time', '-', 'house', 'shape'])

    def test_houses_that_lie_or_sleep(self):
        desk = opened((('b', 'c'), (0, 0, -1), ()), FREE, 4)
        self.same([desk.say(row) for row in ('fall', 'heights', 'states', 'table')], ['b c', '0 - -', '0 - -', 'a 0 0 / b lies / c lies'])
        desk.say('sleep -5 a')
        self.same([desk.say(row) for row in ('heights', 'states', 'table', 'time')], ['- - -', '- - -', 'a sleeps / b lies / c lies', '-5'])

    def test_drawn(self):
        """All rows, event by event, beside live houses that go the same way."""
        for book, run in list(drawn_runs(1)) + [(BOOK, LATE), (BOOK, LEASED), (BOOK, SLEPT)]:
            desk, live = opened(run, book), LiveHouses(book, run[0], run[1])
            for event in run[2]:
                self.same(desk.say('bars ' + event_line(event)), '-')
                self.same(desk.say(event_line(event)), 'one' if live.go(event) else 'broken')
                for row in ROWS:
                    self.same(desk.say(row), answer(live, row))
            for event in reversed(run[2]):
                self.same(desk.say('undo'), plainlines.line(event))
            self.raised(NothingToUndo, {'steps': 0}, desk.say, 'undo')

    def test_two_desks_by_turns(self):
        """Each has live houses of its own; new ones take the place of old ones."""
        random = Random(190)
        desks, lives, called, noted = [Desk(), Desk()], [None, None], [0, 0], [0, 0]
        books = [BOOKS['lamp'], BOOKS['dial'], BOOKS['alone'], SMALL, MIXED]
        for _ in range(900):
            k = random.randrange(2)
            desk, live = desks[k], lives[k]
            called[k] += 1
            if live is None or random.random() < 0.01:
                book = random.choice(books)
                self.same(desk.say(opening(book)), 'ok')
                lives[k] = LiveHouses(book, (), (0,) * len(book[1]))
                continue
            choice = random.random()
            if choice < 0.6:
                event = drawn_event(random, live.book_now, live.run_now[2], random.randint(0, 1) + (live.time_now or 0))
                word = reason(live, event)
                if random.random() < 0.3:
                    self.same(desk.say('bars ' + plainlines.line(event)), dashed([word]))
                elif word is None:
                    self.same(desk.say(plainlines.line(event)), 'one' if live.go(event) else 'broken')
                else:
                    self.raised(InvalidEvent, {'event': event, 'reason': word}, desk.say, plainlines.line(event))
            elif choice < 0.66:
                if len(live) == 0:
                    self.raised(NothingToUndo, {'steps': 0}, desk.say, 'undo')
                else:
                    self.same(desk.say('undo'), plainlines.line(live.undo()))
            elif choice < 0.72:
                name = random.choice('uvwxyz')
                if name in live.notes():
                    self.refused('name', desk.say, 'note ' + name)
                else:
                    self.same(desk.say('note ' + name), str(live.note(name)))
                    noted[k] += 1
            elif choice < 0.78:
                name = random.choice('uvwxyz')
                if name in live.notes():
                    self.same(desk.say('since ' + name), dashed([plainlines.line(event) for event in live.since(name)], ' / '))
                else:
                    self.refused('name', desk.say, 'since ' + name)
            else:
                row = random.choice(ROWS)
                self.same(desk.say(row), answer(live, row))
        self.same([desk.counts() for desk in desks], [(called[0],) * 2, (called[1],) * 2])
        self.assertGreater(min(noted), 3)

    def test_opening(self):
        """The lines of a log without events, and no others."""
        desk = Desk()
        good = opening(BOOK, ('b',), (0, -1, 1))
        self.same(desk.say(good), 'ok')
        self.same(desk.say('table'), 'a 0 0 / b lies / c 0 0')
        self.same(desk.say('vote 0 a 0 on'), 'one')
        with_event = good + '\nvote 0 a 0 on'
        for row in (with_event, good + '\n', '\n' + good, good.replace('setting 0 -1 1', 'setting 0 -9 1'), good.replace('age 0', 'age 1'), good[:-6], good + ' ', ''):
            self.raised(InvalidRow, {'row': row}, desk.say, row)
        self.same(desk.say('events'), 'vote 0 a 0 on')
        self.same([desk.say(good), desk.say('events'), desk.say('time')], ['ok', '-', '-'])
        self.same(desk.say(opening(FREE, (), None, 3)), 'ok')
        self.same([desk.say(event_line(event)) for event in PLAIN[2]], ['one'] * 6)
        self.same(desk.say('breaks'), '-')


class Refused(Case):
    def test_while_there_are_none(self):
        desk = Desk()
        rows = list(ROWS) + ['undo', 'note m', 'since m', 'vote 0 a 0 on', 'bars vote 0 a 0 on', '', 'ok', 'one ', opening(BOOK) + '\nwake 0 a']
        for row in rows:
            self.raised(InvalidRow, {'row': row}, desk.say, row)
        self.same(desk.counts(), (len(rows),) * 2)
        self.same(desk.say(opening(BOOK)), 'ok')

    def test_rows_that_are_none(self):
        desk = opened()
        desk.say('note m')
        rows = [
            '', ' ', 'undo ', ' undo', 'Undo', 'undo 1', 'heights a', 'fall a', 'one one', 'row ',
            'note', 'note ', 'note any', 'note A', 'note a b', 'note  a',
            'note abcdefghi', 'note a1', 'since', 'since ', 'since any', 'since m ', 'since 1', 'bars', 'bars ', 'bars undo', 'bars vote', 'bars vote 0 a 0 on ',
            'bars  vote 0 a 0 on', 'bars vote 0 a 00 on', 'bars bars vote 0 a 0 on', 'vote 0 a 0 on\n', 'vote 0 a 0', 'vote 0 A 0 on', 'vote 0 a -1 on', 'log',
            'tally', 'learned a', 'votes a', 'notes', 'is_one', 'table\nevents', 'note\nm', 'heights\n', 'letters off on', 'setting 0 0 0', 'age 0', 'houses',
        ]
        for row in rows:
            self.raised(InvalidRow, {'row': row}, desk.say, row)
        self.same(desk.counts(), (2 + len(rows),) * 2)
        self.same([desk.say('events'), desk.say('since m')], ['-', '-'])

    def test_changed_rows(self):
        """Of lines of events that are changed, and lines of a log: happening, refused, or no row."""
        seen = {True: 0, False: 0, 'none': 0}
        for event in LATE[2][:6:2] + (LEASED[2][0],):
            for row in changed_lines(plainlines.line(event)):
                desk, live = opened(), LiveHouses(BOOK, (), (0, 0, 0))
                read = plainlines.event(row)
                if isinstance(read, tuple):
                    self.raised(InvalidRow, {'row': row}, desk.say, row)
                    seen['none'] += 1
                    continue
                word = reason(live, read[0])
                seen[word is None] += 1
                if word is None:
                    self.same(desk.say(row), 'one')
                else:
                    self.raised(InvalidEvent, {'event': read[0], 'reason': word}, desk.say, row)
        self.assertGreater(min(seen.values()), 15, seen)

    def test_no_strings(self):
        desk = opened()
        bad = [value for value in ODD if type(value) is not str] + [['undo'], ('undo',), [opening(BOOK)]]
        for row in bad:
            self.refused('row', desk.say, row)
            self.refused('row', Desk().say, row)
        self.same(desk.counts(), (1 + len(bad),) * 2)
        self.same(desk.say(row='one'), 'yes')

    def test_errors_change_nothing(self):
        desk, live = opened(LATE), LiveHouses(BOOK, (), (0, 0, 0))
        live.do_all(*LATE[2])
        for event in LATE[2]:
            desk.say(event_line(event))
        desk.say('note m')
        before = [desk.say(row) for row in ROWS]
        for row, error, fields in (
            ('vote 0 a 0 on', InvalidEvent, {'event': VOTES[0], 'reason': 'time'}), ('wake 2 a', InvalidEvent, {'event': ('wake', 2, 'a'), 'reason': 'house'}),
            ('vote 9 d 0 on', InvalidEvent, {'event': ('vote', 9, 'd', 0, 'on'), 'reason': 'shape'}), ('note m', NotUsable, {'word': 'name', 'at': -1}),
            ('since x', NotUsable, {'word': 'name', 'at': -1}), ('no row', InvalidRow, {'row': 'no row'}),
        ):
            self.raised(error, fields, desk.say, row)
            self.same([desk.say(row) for row in ROWS], before)
        self.same(before, [answer(live, row) for row in ROWS])
        self.same(desk.say('since m'), '-')

    def test_full(self):
        desk = opened()
        for event in CAST:
            self.same(desk.say(event_line(event)), 'one')
        self.raised(InvalidEvent, {'event': ('wake', 0, 'a'), 'reason': 'full'}, desk.say, 'wake 0 a')
        self.same([desk.say('bars wake 0 a'), desk.say('bars wake 0 d')], ['full', 'shape'])
        self.same(desk.say('undo'), event_line(CAST[-1]))


class Counts(Case):
    def test_each_call(self):
        """Once in both, also with an error; the live houses and other desks count for themselves."""
        desk = Desk()
        self.same(desk.counts(), (0, 0))
        many = 0
        for row in (None, 'undo', opening(BOOK), 'undo', 'vote 0 a 0 on', 'vote 0 a 0 on', 'bars x', 'note any', 'note m', 'note m', 'one', 7, 'table', opening(BOOK)):
            try:
                desk.say(row)
            except ValueError:
                pass
            many += 1
            self.same([desk.counts(), desk.counts()], [(many, many)] * 2)
        self.same(Desk().counts(), (0, 0))

    def test_functions(self):
        """The names say and counts of the module do as the methods."""
        desk = Desk()
        self.same([say(desk, opening(BOOK)), say(row='one', desk=desk), counts(desk)], ['ok', 'yes', (2, 2)])
        self.same([desk.say('one'), counts(desk=desk)], ['yes', (3, 3)])
        self.raised(InvalidRow, {'row': 'x'}, say, desk, 'x')
        self.refused('row', say, desk, 5)
        for value in ODD + [Desk]:
            self.refused('desk', say, value, 'one')
            self.refused('desk', counts, value)
        self.same(desk.counts(), (5, 5))

    def test_plain_values(self):
        live = LiveHouses(BOOK, (), (0, 0, 0))
        before = all_told(live)
        desk = opened()
        desk.say('vote 0 a 0 on')
        self.same(all_told(live), before)
        self.assertTrue(all(type(desk.say(row)) is str for row in ROWS))
        self.assertTrue(plain.is_book(live.book_now))
