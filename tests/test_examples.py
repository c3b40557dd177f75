"""The examples of the document, word for word, each with all that stands above it."""

import unittest

from actasone import errors

EXAMPLES = r'''
>>> LAMP = (('off', 'on'), ('lit',), ((0, 1), (0, 1)), ((0,), (1,)))
>>> PAIRS = (('a', 'b'), ('a', 'c'), ('b', 'c'))
>>> THREE = (('a', PAIRS, (('b',), ('c',))), ('b', PAIRS, (('a',), ('c',))), ('c', PAIRS, (('a',), ('b',))))
>>> CALM = (('a', PAIRS, ((),)), ('b', PAIRS, ((),)), ('c', PAIRS, ((),)))

>>> from actasone.partschecker import lets_parts
>>> lets_parts((LAMP, (('a', (), ((),)),), (), (), ()))
raises InvalidPaper(word='lots', at=(1, 0))

>>> from actasone.machinechanges import renumbered
>>> renumbered(LAMP, (1, 0))[2:]
(((1, 0), (1, 0)), ((1,), (0,)))

>>> from actasone.readings import machine_read
>>> from actasone.texts import book_text
>>> SMALL = (LAMP, CALM, (('a', 'b', 2),), (('a', ('lit',), (), 10, (('b', 12), ('c', -1))),), (('a', 3),))
>>> book_text(SMALL).split('\n')[3:5] + book_text(SMALL).split('\n')[7:]
['state 0 1 : 1', 'house a : a,b a,c b,c : -', 'gap a b 2', 'looking a lit - 10 b:12 c:-1', 'waking a 3']
>>> machine_read('letters off on\nlooks lit\nstate 0 1 : 0')
raises InvalidText(line=2, field=2)

>>> from actasone.machineclasses import Machine
>>> one = Machine(*LAMP)
>>> [one == Machine.read(str(one)), one[1], one(0, ('on', 'on')), 2 in one]
[True, ((0, 1), (1,)), 1, False]

>>> from actasone.reaching import reachable_states, row_to
>>> DIAL = (('down', 'up'), ('high', 'low'), ((0, 1), (0, 2), (1, 2)), ((0, 1), (0, 0), (1, 0)))
>>> SPARE = (('hold', 'turn'), ('lit',), ((2, 1), (1, 0), (0, 1), (3, 3)), ((0,), (1,), (0,), (1,)))
>>> [reachable_states(SPARE), row_to(SPARE, 3), row_to(DIAL, 2)]
[(0, 1, 2), None, ('up', 'up')]

>>> from actasone.alikestates import alike_classes, folded, least_machine, parting_row, starts_alike
>>> [alike_classes(DIAL, ('high',)), alike_classes(SPARE, ('lit',))]
[(0, 1, 2), (0, 1, 0, 3)]
>>> [parting_row(DIAL, 0, 1, ('high',)), parting_row(SPARE, 0, 2, ('lit',))]
[('up',), None]
>>> [least_machine(SPARE)[2:], folded(SPARE)[2:], starts_alike(SPARE, folded(SPARE))]
[(((0, 1), (1, 0)), ((0,), (1,))), (((0, 1), (1, 0), (2, 2)), ((0,), (1,), (1,))), True]

>>> from actasone.moving import least_look_age, moves_past
>>> ROUND = (('tick', 'tock'), ('day', 'hour'), ((1, 1), (2, 2), (0, 0)), ((0, 0), (0, 1), (0, 2)))
>>> [moves_past(LAMP, 'lit', 6), least_look_age(ROUND, 'day'), least_look_age(ROUND, 'hour')]
[True, 0, 2]

>>> from actasone.counting import partings_of, right_many, settles
>>> PAST = (('no', 'yes'), ('new', 'old'), ((0, 1), (2, 3), (0, 1), (2, 3)), ((0, 0), (1, 0), (0, 1), (1, 1)))
>>> [right_many(LAMP, ('lit',)), right_many(DIAL, ('low',)), right_many(PAST, ('new', 'old'))]
[1, None, 2]
>>> [partings_of(PAST, ('old',), 2), settles(PAST, ('old',), 1)]
[((0, 1, 2, 3), (0, 1, 0, 1), (0, 0, 0, 0)), False]

>>> from actasone.alikechecker import lets_alike
>>> lets_alike(SPARE, 1, 3, ('lit',), ('alike', (0, 1, 0, 1)))
raises InvalidPaper(word='letter', at=(3, 1))

>>> from actasone.walkclasses import Walk
>>> walk = Walk(DIAL, 1, ('up',))
>>> [walk.take('up'), walk.take('down'), walk['high'], str(walk), 0 in walk, walk.back(), list(walk)]
[2, 1, 0, '1 up 2 up 2 down 1', False, 'down', [1, 2, 2]]

>>> from actasone.falls import common_falls, greatest_falls, is_safe, safe_houses
>>> TRIOS = (('a', 'b', 'c'), ('a', 'b', 'd'), ('a', 'c', 'd'), ('b', 'c', 'd'))
>>> FEARS = (('b',), ('c',), ('d',)), (('a',), ('c',), ('d',)), (('a',), ('b',), ('d',)), (('a',), ('b',), ('c',))
>>> FOUR = (('a', TRIOS, FEARS[0]), ('b', TRIOS, FEARS[1]), ('c', TRIOS, FEARS[2]), ('d', TRIOS, FEARS[3]))
>>> [is_safe(THREE, 'a', ('b',)), is_safe(THREE, 'a', ('b', 'c')), is_safe(THREE, 'a', ('a',)), safe_houses(THREE, ()), safe_houses(CALM, ('a',))]
[True, False, False, ('a', 'b', 'c'), ()]
>>> [greatest_falls(THREE, 'a'), common_falls(THREE, 'a', 'b'), common_falls(CALM, 'a', 'b'), common_falls(FOUR, 'a', 'b')]
[(('b',), ('c',)), (('c',),), ((),), (('c',), ('d',))]
>>> is_safe(THREE, 'd', ())
raises NotUsable(word='house', at=-1)

>>> from actasone.odds import all_odds, least_dropped, odds_fall, without_pairs
>>> [odds_fall(THREE, ('a', 1), ('b', 2)), odds_fall(THREE, ('a', 0), ('a', 2)), odds_fall(THREE, ('a', 0), ('b', 0)), len(all_odds(THREE))]
[('c',), ('b',), None, 12]
>>> [all_odds(CALM), all_odds(FOUR), least_dropped(FOUR), without_pairs(THREE, (('a', 0), ('a', 2)))[0]]
[(), (), (), ('a', (('a', 'c'),), (('b',), ('c',)))]
>>> LONE = (('a', (('b',),), (('b',),)), ('b', (('b',),), ((),)))
>>> [all_odds(LONE), least_dropped(LONE)]
[((('a', 0), ('a', 0)),), None]
>>> without_pairs(LONE, (('a', 0),))
raises NotUsable(word='pairs', at=-1)

>>> from actasone.needs import fewest_lot, first_missed, least_lots, meets_needs, needs_of
>>> [needs_of(CALM, 'a'), needs_of(THREE, 'a'), least_lots(CALM, 'a'), least_lots(THREE, 'a')]
[(('a', 'b'), ('a', 'c'), ('b', 'c')), (('a',), ('b',), ('c',)), (('a', 'b'), ('a', 'c'), ('b', 'c')), (('a', 'b', 'c'),)]
>>> [len(needs_of(FOUR, 'a')), least_lots(FOUR, 'a') == TRIOS, meets_needs(FOUR, 'a', ('b', 'd')), first_missed(FOUR, 'a', ('b', 'd'))]
[6, True, False, ('a', 'c')]
>>> LAMED = (('a', (('b',),), ((),)), ('b', (('a',),), (('a',),)))
>>> [needs_of(LAMED, 'a'), needs_of(LAMED, 'b'), least_lots(LAMED, 'a'), needs_of((('a', (('a',),), ((),)),), 'a'), least_lots((('a', (('a',),), ((),)),), 'a')]
[(('a',),), (('b',),), (('a',),), (), ((),)]

>>> from actasone.trustchecker import lets_needs, lets_odds
>>> from actasone.trustpapers import needs_paper, odds_paper
>>> from actasone.trustsalike import parting_lot, trusts_alike
>>> [trusts_alike(CALM, CALM), trusts_alike(CALM, THREE), lets_odds(THREE, ('odds', ('a', 1), ('b', 2), ('c',))), lets_odds(FOUR, odds_paper(FOUR)), lets_needs(FOUR, 'a', needs_paper(FOUR, 'a'))]
[True, False, True, False, 6]
>>> lets_odds(THREE, ('calm',))
raises InvalidPaper(word='calm', at=(('a', 0), ('a', 2)))
>>> lets_needs(CALM, 'a', ((('a', 'b'), 'b', 0, ()),))
raises InvalidPaper(word='lacks', at=('b', 1))

>>> from actasone.boundtables import gap_of, table_of, way_of
>>> from actasone.clockchecker import lets_table
>>> from actasone.clockpapers import table_paper
>>> ABC, BOUNDS = ('a', 'b', 'c'), (('a', 'b', 2), ('b', 'c', 3), ('c', 'a', 1), ('a', 'c', 9))
>>> TABLE = table_of(ABC, BOUNDS)
>>> TABLE
(('a', 'b', 2), ('a', 'c', 5), ('b', 'a', 4), ('b', 'c', 3), ('c', 'a', 1), ('c', 'b', 3))
>>> [gap_of(TABLE, 'b', 'a'), gap_of(TABLE, 'a', 'd'), way_of(ABC, BOUNDS, 'a', 'c')]
[4, 'any', ('a', 'b', 'c')]
>>> lets_table(ABC, BOUNDS, table_paper(ABC, BOUNDS))
True
>>> table_of(ABC, (('b', 'a', -3), ('a', 'b', 2)))
raises NoTable(ring=('a', 'b'), total=-1)

>>> from actasone.extremes import extreme_setting, least_until, surely_before
>>> from actasone.settings import any_setting, fits
>>> [extreme_setting(TABLE, ABC, 'a', -9), fits(TABLE, ABC, (0, -4, -2)), fits(TABLE, ABC, any_setting(TABLE, ABC))]
[(0, -4, -1), False, True]
>>> [surely_before(TABLE, 'a', 10, 'b', 13), least_until(TABLE, 'a', 10, 'b'), least_until((), 'a', 10, 'b')]
[False, 14, None]

>>> from actasone.longestchecker import lets_longest
>>> from actasone.longestends import longest_for
>>> SETS, UNTILS = (('a', 'b'), ('a', 'c'), ('b', 'c')), (('b', 14), ('c', 12))
>>> [longest_for(TABLE, 'a', SETS, ('a',), UNTILS), longest_for(TABLE, 'a', SETS, (), UNTILS), longest_for(TABLE, 'a', SETS, ('a', 'b'), ())]
[11, 10, 'any']
>>> lets_longest(TABLE, 'a', SETS, ('a',), UNTILS, ('longest', 11, ('a', 'a', 'c'), 2))
11

>>> from actasone.clockchanges import turned_clocks, with_bound, without_house
>>> from actasone.clockclasses import Clocks
>>> [with_bound(TABLE, ('b', 'a', 0))[2], without_house(TABLE, 'c'), turned_clocks((('a', 'b', 2),))]
[('b', 'a', 0), (('a', 'b', 2), ('b', 'a', 4)), (('b', 'a', 2),)]
>>> it = Clocks(ABC, *BOUNDS)
>>> [it('c', 'b'), ('a', 'c', 5) in it, it == Clocks(ABC, *TABLE), (it + ('b', 'a', 0))('b', 'a')]
[3, True, True, 0]

>>> from actasone.runchecker import lets_run
>>> NEAR = (('a', 'b', 2), ('a', 'c', 2), ('b', 'a', 2), ('b', 'c', 2), ('c', 'a', 2), ('c', 'b', 2))
>>> LIT, ANY = ('lit',), 'any'
>>> LOOKS = (('a', LIT, ('a', 'b'), ANY, ()), ('b', LIT, ('c',), ANY, ()), ('a', LIT, (), 10, (('b', 12), ('c', 12))), ('a', LIT, (), 10, (('b', 11), ('c', 12))))
>>> BOOK = (LAMP, CALM, NEAR, LOOKS, (('a', 1),))
>>> VOTES = (('vote', 0, 'a', 0, 'on'), ('vote', 0, 'b', 0, 'on'), ('learn', 1, 'a', ('a', 'b'), 0, 'on'))
>>> PLAIN = ((), (0, 0, 0), VOTES + (('begin', 1, 'b', 1, 'lit'), ('told', 1, 3, 'c', 0), ('answer', 1, 3, 0)))
>>> LATE = ((), (0, 0, 0), VOTES + (('begin', 1, 'b', 1, 'lit'), ('vote', 1, 'c', 0, 'on'), ('learn', 2, 'b', ('a', 'b'), 0, 'on'), ('told', 2, 3, 'c', 1), ('answer', 2, 3, 1)))
>>> LEASED = ((), (0, 0, 0), (('promise', 3, 'b', 2), ('says', 3, 'b', 2, 0), ('promise', 3, 'c', 2), ('says', 3, 'c', 2, 0), ('begin', 10, 'a', 2, 'lit'), ('answer', 10, 4, 0)))
>>> [lets_run(BOOK, PLAIN), lets_run(BOOK, LATE), lets_run(BOOK, LEASED)]
[6, 8, 6]
>>> lets_run(BOOK, ((), (0, 0, 0), LEASED[2] + (('vote', 11, 'b', 0, 'on'),)))
raises InvalidPaper(word='vote', at=6)

>>> from actasone.inruns import greatest_in, height_in, learned_in, state_in, votes_in
>>> [votes_in(BOOK, PLAIN, 'b'), learned_in(BOOK, PLAIN, 'a'), height_in(BOOK, PLAIN, 'a'), state_in(BOOK, PLAIN, 'a'), height_in(BOOK, PLAIN, 'b')]
[((0, 'on'),), ((0, 'on'),), 1, 1, 0]
>>> SLEPT = ((), (0, 0, 0), VOTES + (('sleep', 2, 'a'), ('count', 3, 'a', 0, 0, 1)))
>>> [learned_in(BOOK, SLEPT, 'a'), height_in(BOOK, SLEPT, 'a'), greatest_in(BOOK, SLEPT, 'a')]
[(), None, 1]

>>> from actasone.looksinruns import clash_in, looks_in
>>> [looks_in(BOOK, PLAIN), looks_in(BOOK, LATE), looks_in(BOOK, LEASED), clash_in(BOOK, LATE)]
[((5, 'b', 'lit', 0, 1, 1),), ((7, 'b', 'lit', 1, 1, 1),), ((5, 'a', 'lit', 0, 0, 0),), None]

>>> from actasone.oneness import first_break, run_is_one, run_row
>>> from actasone.rowchecker import lets_row
>>> [run_is_one(BOOK, PLAIN), run_is_one(BOOK, LATE), run_row(BOOK, LATE), run_row(BOOK, PLAIN), first_break(BOOK, PLAIN), lets_row(BOOK, LATE, ('on',))]
[False, True, ('on',), None, ('look', 5), 1]
>>> run_is_one((LAMP, CALM, NEAR, LOOKS, ()), PLAIN, age=1)
True
>>> lets_row(BOOK, PLAIN, ('on',))
raises InvalidPaper(word='look', at=5)

>>> from actasone.rulelooks import catches, lasting, rule_is_right, rule_lacks, waking_is_right
>>> [rule_is_right(BOOK, rule) for rule in (0, 1, 2, 3)]
[True, False, True, False]
>>> [rule_lacks(BOOK, 1), lasting(BOOK, 2), lasting(BOOK, 3), rule_lacks(BOOK, 3), catches(BOOK, 3, ('a', 'b'))]
[(('a', 'b'),), ('b', 'c'), ('c',), (('a', 'b'),), False]
>>> AHEAD = (('a', 'b', 2), ('a', 'c', 2), ('b', 'a', 0), ('b', 'c', 2), ('c', 'a', 2), ('c', 'b', 2))
>>> lasting((LAMP, CALM, AHEAD, LOOKS, ()), 3)
('b', 'c')
>>> TURN = (('hold', 'turn'), ('lit',), ((0, 1), (1, 0)), ((0,), (1,)))
>>> MIXED = (TURN, CALM, NEAR, (('a', LIT, ('b',), 10, (('c', 12),)),), (('a', 2), ('b', 2)))
>>> [rule_is_right(MIXED, 0), waking_is_right(BOOK, 0), waking_is_right(MIXED, 0), waking_is_right(MIXED, 1)]
[True, True, False, True]

>>> from actasone.bestends import least_untils, longest_end
>>> [longest_end(BOOK, 2), longest_end(BOOK, 3), least_untils(BOOK, 2), least_untils(BOOK, 3), longest_end(MIXED, 0)]
[10, 9, (12, 12), (12, None), 10]

>>> from actasone.shownruns import run_of_odds, run_of_rule, run_of_waking
>>> SHOWN, WOKEN, UNLIKE = run_of_rule(BOOK, 1), run_of_waking(MIXED, 0), run_of_odds((LAMP, THREE, NEAR, (), ()), ('a', 1), ('b', 2))
>>> [lets_run(BOOK, SHOWN) == len(SHOWN[2]), run_is_one(BOOK, SHOWN), run_is_one(MIXED, WOKEN), UNLIKE[0]]
[True, False, False, ('c',)]
>>> [run_of_rule(BOOK, 0), run_of_waking(BOOK, 0), run_of_odds(BOOK, ('a', 0), ('b', 0))]
[None, None, None]

>>> from actasone.runchanges import moved, shortened, without_events
>>> [moved(BOOK, PLAIN, 5)[1], len(shortened(BOOK, PLAIN)[2]), without_events(BOOK, PLAIN, (4, 5))[2][-1]]
[(5, 5, 5), 6, ('begin', 1, 'b', 1, 'lit')]
>>> without_events(BOOK, PLAIN, (3,))
raises NotUsable(word='indexes', at=-1)

>>> from actasone.whole import faults_in, faults_of, first_fault, is_as_one, least_age
>>> SOUND = (LAMP, CALM, NEAR, (('a', ('lit',), ('a', 'b'), 'any', ()), ('a', ('lit',), (), 10, (('b', 12), ('c', 12)))), (('a', 1),))
>>> WRONG = (LAMP, CALM, NEAR, (('b', ('lit',), ('c',), 'any', ()), ('a', ('lit',), (), 10, (('b', 11), ('c', 12)))), ())
>>> [is_as_one(SOUND), is_as_one(WRONG), faults_of(WRONG), first_fault(SOUND), is_as_one(WRONG, age=1), least_age(WRONG)]
[True, False, (('looking', 0), ('looking', 1)), None, False, None]
>>> TORN = (LAMP, THREE, (), (), ())
>>> [len(faults_of(TORN)), len(faults_in(TORN, ('c',))), faults_in(TORN, ('b', 'c')), first_fault(TORN)[0]]
[12, 4, (), 'odds']

>>> from actasone.bookchecker import lets_book
>>> from actasone.bookpapers import book_paper
>>> [lets_book(SOUND, book_paper(SOUND)), lets_book(WRONG, book_paper(WRONG)), book_paper(WRONG)[0]]
[True, False, 'run']
>>> lets_book(SOUND, ('one', (), ((),), (), ()))
raises InvalidPaper(word='kept', at=-1)

>>> from actasone.mending import an_ask_for, kept_rules, least_changes, with_longest_ends
>>> [kept_rules(WRONG)[3], [rule[3] for rule in with_longest_ends(WRONG)[3]], len(an_ask_for(WRONG, 'b', ('lit',))[2]), least_changes(SOUND)[0]]
[(), ['any', 9], 2, ()]

>>> from actasone.live import LiveHouses
>>> live = LiveHouses(BOOK, (), (0, 0, 0))
>>> [live.do_all(VOTES[0], VOTES[1], VOTES[2]), live.heights(), live.states(), live.table(), live['a'], live.is_one()]
[3, (1, 0, 0), (1, 0, 0), ['a 1 1', 'b 0 0', 'c 0 0'], (True, 1, 1), True]
>>> [live.note('m'), live.begin(1, 'b', 1, 'lit'), live.told(1, 3, 'c', 0), live.answer(1, 3, 0), live.first_broken(), live.undo(), len(live.since('m')), live.tally()]
[3, True, True, False, ('look', 5), ('answer', 1, 3, 0), 2, (5, 5)]

>>> from actasone.guarded import Guarded
>>> from actasone.through import lead_through
>>> lead_through(Guarded(BOOK, (), (0, 0, 0)), PLAIN[2])
(None, None, None, None, None, 'broken')

>>> from actasone.desk import Desk
>>> from actasone.eventreadings import read_event
>>> from actasone.eventtexts import event_line, log_lines
>>> [event_line(VOTES[2]), read_event('told -1 3 c 0')]
['learn 1 a a,b 0 on', ('told', -1, 3, 'c', 0)]
>>> desk = Desk()
>>> [desk.say(row) for row in ('\n'.join(log_lines(live.log()[:1])), 'vote 0 a 0 on', 'bars vote 0 a 0 off', 'undo')]
['ok', 'one', 'vote', 'vote 0 a 0 on']
'''


def steps(text):
    """Pairs of a row of code and the rows that tell its result."""
    for part in text.strip().split('>>> ')[1:]:
        code, _, result = part.partition('\n')
        yield code, result.strip()


class Examples(unittest.TestCase):
    def test_examples(self):
        known = {}
        many = 0
        for code, wanted in steps(EXAMPLES):
            with self.subTest(code=code):
                if not wanted:
                    exec(code, known)
                    continue
                many += 1
                if wanted.startswith('raises '):
                    error = eval(wanted[len('raises '):], vars(errors).copy())
                    with self.assertRaises(type(error)) as caught:
                        eval(code, known)
                    self.assertIs(type(caught.exception), type(error))
                    self.assertEqual(repr(vars(caught.exception)), repr(vars(error)))
                else:
                    self.assertEqual(repr(eval(code, known)), wanted)
        self.assertGreater(many, 40)
