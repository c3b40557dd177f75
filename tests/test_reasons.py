"""Points 55, 87, 88, 90, 92: one event, refused by all that lets events happen, for the same reason."""

from random import Random

from actasone.desk import Desk
from actasone.errors import InvalidEvent, InvalidPaper
from actasone.eventtexts import event_line, log_lines
from actasone.guarded import Guarded
from actasone.live import LiveHouses
from actasone.liveevents import is_event
from actasone.replaying import replayed
from actasone.runchecker import lets_run
from actasone.through import lead_through
from tests.cases import Case
from tests.drawnruns import drawn_event, drawn_runs
from tests.samples import BOOK, LATE, LEASED, ODD, PLAIN, SLEPT, changes_of


def reason_by(call, *args, **named):
    """The reason with which a call refuses an event, None if it does not."""
    try:
        call(*args, **named)
    except InvalidEvent as error:
        return error.reason
    return None


def by_checker(book, run):
    """What lets_run says of the last event of a run."""
    try:
        lets_run(book, run)
    except InvalidPaper as error:
        return 'shape' if error.word == 'form' else error.word
    return None


class Reasons(Case):
    def all_reasons(self, book, run, event):
        """What each of them tells, made anew each time; the run ahead is as one."""
        fall, setting, events = run
        fresh = lambda kind=LiveHouses: self.behind(kind(book, fall, setting), events)
        told = [
            fresh().barred(event), reason_by(fresh().go, event), reason_by(fresh().tried, event), reason_by(fresh().do_all, event),
            reason_by(fresh().do_all, event, keep=True), lead_through(fresh(), (event,))[0], by_checker(book, (fall, setting, events + (event,))),
        ]
        if type(event) is tuple and event and event[0] in ('vote', 'learn', 'sleep', 'wake', 'count', 'begin', 'told', 'answer', 'promise', 'says'):
            try:
                told.append(reason_by(getattr(fresh(), event[0]), *event[1:]))
            except TypeError:
                # So many arguments it does not take.
                self.assertEqual(told[0], 'shape')
        guarded = fresh(Guarded)
        kept = guarded.barred(event)
        self.same(reason_by(guarded.go, event), kept)
        if kept == 'broken':
            self.same([told[0], reason_by(fresh().go, event), self.after(fresh(), event).is_one()], [None, None, False])
        else:
            told.append(kept)
        if is_event(event):
            told.append(reason_by(replayed, (('houses', book, fall, setting, 0),) + events + (event,)))
            desk = Desk()
            desk.say('\n'.join(log_lines((('houses', book, fall, setting, 0),))))
            for ahead in events:
                desk.say(event_line(ahead))
            word = desk.say('bars ' + event_line(event))
            told += [None if word == '-' else word, reason_by(desk.say, event_line(event))]
        return told

    def behind(self, live, events):
        live.do_all(*events)
        return live

    def after(self, live, event):
        live.go(event)
        return live

    def test_drawn(self):
        random, seen = Random(200), {}
        for book, run in drawn_runs(3, 20, 201):
            events = run[2][: random.randint(0, len(run[2]))]
            if by_checker(book, run[:2] + (events,)) is not None or not self.is_one(book, run[:2] + (events,)):
                continue
            for _ in range(25):
                event = drawn_event(random, book, events, (events[-1][1] if events else 0) - random.choice((0, 0, 0, 1)))
                told = self.all_reasons(book, run[:2] + (events,), event)
                self.same(told, told[:1] * len(told))
                seen[told[0]] = seen.get(told[0], 0) + 1
        self.assertGreaterEqual(set(seen), {None, 'shape', 'time', 'house', 'vote', 'learn', 'told', 'says', 'answer'}, seen)

    def is_one(self, book, run):
        live = LiveHouses(book, run[0], run[1])
        live.do_all(*run[2])
        return live.is_one()

    def test_changed(self):
        """Events that can happen, changed in one place: lists, True and False, other names and numbers."""
        for run in (LATE, LEASED, SLEPT):
            for k in range(len(run[2])):
                for event in list(changes_of(run[2][k]))[::17]:
                    told = self.all_reasons(BOOK, run[:2] + (run[2][:k],), event)
                    self.same(told, told[:1] * len(told))
        for thing in ODD:
            told = self.all_reasons(BOOK, PLAIN[:2] + (PLAIN[2][:5],), thing)
            self.same(told, ['shape'] * len(told))

    def test_forty_and_one_more(self):
        """lets_run alone lets more than forty events."""
        votes = tuple(('vote', 0, 'a', place, 'on') for place in range(40))
        for event, wanted, checked in ((('wake', 0, 'a'), 'full', 'house'), (('sleep', 0, 'a'), 'full', None), (('vote', 0, 'd', 0, 'on'), 'shape', 'shape')):
            told = self.all_reasons(BOOK, ((), (0, 0, 0), votes), event)
            self.same(told, [wanted] * 6 + [checked] + [wanted] * (len(told) - 7))
