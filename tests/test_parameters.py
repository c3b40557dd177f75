"""Points 2, 14, 24: parameters of any kind, by position and by name, the first wrong one named."""

import inspect
from itertools import combinations

from actasone.alikechecker import lets_alike
from actasone.alikepapers import alike_paper
from actasone.alikestates import (
    alike_classes, are_alike, folded, least_machine, parting_row, starts_alike,
)
from actasone.bestends import least_untils, longest_end
from actasone.bookchanges import books_alike, with_rule, without_rule
from actasone.bookchecker import lets_book
from actasone.bookpapers import book_paper
from actasone.boundtables import gap_of, table_of, way_of
from actasone.clockchanges import turned_clocks, with_bound, without_house
from actasone.clockchecker import lets_table
from actasone.clockpapers import table_paper
from actasone.counting import partings_of, right_many, settles, unlike_walk
from actasone.extremes import extreme_setting, least_until, surely_before
from actasone.falls import common_falls, greatest_falls, is_safe, safe_houses
from actasone.inruns import greatest_in, height_in, learned_in, state_in, votes_in
from actasone.longestchecker import lets_longest
from actasone.longestends import longest_for
from actasone.longestpapers import longest_paper
from actasone.looksinruns import clash_in, looks_in
from actasone.machinechanges import only_looks, renamed_machine, renumbered, side_by_side
from actasone.machineparts import answer_of, made_of, next_state
from actasone.mending import an_ask_for, kept_rules, least_changes, with_longest_ends
from actasone.moving import is_moving, least_look_age, moves_past, moving_walk
from actasone.needs import fewest_lot, first_missed, least_lots, meets_needs, needs_of
from actasone.odds import all_odds, least_dropped, odds_fall, without_pairs
from actasone.oneness import first_break, run_is_one, run_row
from actasone.partschecker import lets_clocks
from actasone.reaching import reachable_states, row_to
from actasone.readings import book_read, machine_read
from actasone.rowchecker import lets_row
from actasone.rulelooks import catches, lasting, rule_is_right, rule_lacks, waking_is_right
from actasone.runchanges import moved, shortened, without_events
from actasone.runchecker import lets_run
from actasone.runkinds import is_run
from actasone.settings import any_setting, filled_setting, fits
from actasone.shownruns import run_of_odds, run_of_rule, run_of_waking
from actasone.texts import book_text, machine_text
from actasone.trustchanges import renamed_trust, with_fear, with_lot
from actasone.trustchecker import lets_needs, lets_odds
from actasone.trustpapers import needs_paper, odds_paper
from actasone.trustparts import fears_at, houses_of, lots_at
from actasone.trustsalike import parting_lot, trusts_alike
from actasone.walkclasses import Walk
from actasone.whole import fault_run, faults_in, faults_of, first_fault, is_as_one, least_age
from tests import plain, plainruns
from tests.cases import Case
from tests.samples import (
    BOOK, CALM, DIAL, FOUR, LAMP, LATE, LIT, LONE, MIXED, ODD, PLAIN, SMALL, SOUND, TABLE, THREE, TORN, WRONG, changes_of,
)

LETTERS, LOOKS, STATES = DIAL[0], DIAL[1], (0, 1, 2)
HOUSES = ('a', 'b', 'c')


def odd_beside(good, *more):
    """Values that a parameter is not let to be: those of many kinds that are not good."""
    return [value for value in ODD + list(more) if not good(value)]


def is_in(things):
    return lambda value: type(value) is str and value in things


def is_set_in(things):
    return lambda value: plain.is_set(value, is_in(things))


def are_two_names(value):
    return type(value) is tuple and all(map(plain.is_name, value)) and len(value) == len(set(value)) == 2


BAD_MACHINES = ODD + [value for value in changes_of(LAMP) if not plain.is_machine(value)] + [CALM, list(LAMP), DIAL[:3]]
BAD_TRUSTS = ODD + [value for value in changes_of(CALM) if not plain.is_trust(value)] + [LAMP, list(CALM)]
BAD_STATES = odd_beside(lambda value: type(value) is int and 0 <= value < 3, 3, 4, -3, '1', [1])
BAD_LETTERS = odd_beside(is_in(LETTERS), 'Up', 'high', ['up'], ('up',), 'downup')
BAD_LOOKS_ONE = odd_beside(is_in(LOOKS), 'High', 'up', ['low'], ('low',))
BAD_LOOKS = odd_beside(
    is_set_in(LOOKS), ('low', 'high'), ('low', 'low'), ['low'], ('low', None), 'low', ('high', 'up'), (['low'],),
)
BAD_ROWS = odd_beside(
    lambda value: type(value) is tuple and all(map(is_in(LETTERS), value)), ['up'], ('up', 'high'), 'up', ('up', ['up']),
)
BAD_NUMBERS = odd_beside(plain.is_number, '1', (1,), [1])
BAD_HOUSES = odd_beside(is_in(HOUSES), 'd', ['a'], 'A', ('a',))
BAD_HOUSE_SETS = odd_beside(is_set_in(HOUSES), ('a', 'd'), ('b', 'a'), ('a', 'a'), ['a'], 'ab', ('a', ['b']), (('a',),))
BAD_TEXTS = [value for value in ODD if type(value) is not str] + [['letters'], ('letters a b',)]

NAMES = ('a', 'b', 'c', 'x')


def is_bound(value, houses=None):
    if not plain.is_tuple(value, 3) or not plain.is_name(value[0]) or not plain.is_name(value[1]) or value[0] == value[1]:
        return False
    return plain.is_integer(value[2]) and (houses is None or value[0] in houses and value[1] in houses)


def are_names(value):
    return plain.is_set(value, plain.is_name)


def are_untils(value, good=plain.is_name):
    if not plain.is_set(value, lambda part: plain.is_tuple(part, 2) and good(part[0]) and plain.is_integer(part[1])):
        return False
    return len(set(part[0] for part in value)) == len(value)


def are_pairs(value):
    if not plain.is_set(value, lambda part: plain.is_pair(THREE, part)):
        return False
    return plain.without_pairs(THREE, value) is not None


def are_bounds(value):
    return type(value) is tuple and all(is_bound(part, NAMES) for part in value)


def odd_among(value, good):
    """Values of many kinds, and the value itself changed in one place, that are not good."""
    return odd_beside(good, *[late for late in changes_of(value) if not good(late)])


PAIRS_OF = (('a', 1), ('b', 0), ('b', 2))
SOME_BOUNDS = (('a', 'b', 2), ('b', 'c', 3), ('a', 'b', 9))
SOME_SETS = (('a', 'b'), (), ('x',))
UNTILS = (('b', 14), ('c', 12))
is_house = is_in(HOUSES)
is_some_house = is_in(NAMES)
BAD_PAIRS = odd_among(('a', 1), lambda value: plain.is_pair(THREE, value)) + [('d', 0), ('a', 3)]
BAD_NAMES = odd_beside(plain.is_name, ['a'], ('a',), 'a1', 'any')
BAD_INTEGERS = odd_beside(plain.is_integer, '1', (1,), [1])
BAD_CLOCKS = odd_among(TABLE[:2] + TABLE[3:4], plain.is_clocks) + [BOOK, list(TABLE), TABLE[:1] + TABLE[3:4]]
BAD_NAME_SETS = odd_among(NAMES, are_names) + [list(NAMES)]
BAD_RUNS = ODD + [late for late in changes_of(LATE) if type(plainruns.lets_run(BOOK, late)) is tuple][::7] + [list(LATE), LATE[:2]]
BAD_BOOKS = ODD + [late for late in changes_of(SMALL) if not plain.is_book(late)][::5] + [list(BOOK), BOOK[:4]]

MACHINE = ('machine', DIAL, BAD_MACHINES)
STATE = ('state', 1, BAD_STATES)
OTHER = ('other', 2, BAD_STATES)
LOOK = ('look', 'low', BAD_LOOKS_ONE)
SOME_LOOKS = ('looks', ('high', 'low'), BAD_LOOKS)
AGE = ('age', 2, BAD_NUMBERS)
MANY = ('many', 2, BAD_NUMBERS)
TRUST = ('trust', THREE, BAD_TRUSTS)
HOUSE = ('house', 'a', BAD_HOUSES)
FALL = ('fall', ('b',), BAD_HOUSE_SETS)
LOT = ('lot', ('a', 'c'), BAD_HOUSE_SETS)
OTHER_TRUST = ('other', CALM, BAD_TRUSTS + [FOUR, LONE])
TABLE_CLOCKS = ('clocks', TABLE, BAD_CLOCKS)
TABLE_HOUSES = ('houses', NAMES, BAD_NAME_SETS + [(), ('a', 'b'), ('b', 'c'), ('a', 'c', 'x')])
BOUND_HOUSES = ('houses', NAMES, BAD_NAME_SETS)
BOUNDS_OF = ('bounds', SOME_BOUNDS, odd_among(SOME_BOUNDS, are_bounds) + [list(SOME_BOUNDS), (('a', 'd', 1),), (('a', 'a', 1),)])
ANY_HOUSE = ('house', 'a', BAD_NAMES)
ANY_OTHER = ('other', 'b', BAD_NAMES)
OF_HOUSES = odd_beside(is_some_house, 'd', ['a'], 'A', ('a',))
SETS_OF = ('sets', SOME_SETS, odd_among(SOME_SETS, lambda value: type(value) is tuple and all(map(are_names, value))))
ANY_LOT = ('lot', ('a', 'zz'), odd_among(('a', 'zz'), are_names))
PROMISES = ('promises', UNTILS, odd_among(UNTILS, are_untils) + [(('c', 1), ('b', 2)), (('b', 1), ('b', 2))])
LONGEST = [TABLE_CLOCKS, ANY_HOUSE, SETS_OF, ANY_LOT, PROMISES]
A_BOOK = ('book', BOOK, BAD_BOOKS)
RUN = ('run', LATE, BAD_RUNS)
FREE = BOOK[:4] + ((),)
FREE_BOOK = ('book', FREE, BAD_BOOKS)
# A book with rules of waking has no age but 0.
NO_AGE = ('age', 0, odd_beside(lambda value: type(value) is int and value == 0, 3, '0', [0]))
RULE = ('rule', 3, odd_beside(lambda value: type(value) is int and 0 <= value < 4, 4, -4, '0', [0]))
PROMISED = ('rule', 3, RULE[2] + [0, 1])
WAKING = ('waking', 0, odd_beside(lambda value: type(value) is int and value == 0, 3, '0', [0]))
ODDS_RULES = ODD + [('looking', 4), ('waking', 1), ('odds', ('b', 0), ('a', 0)), ('looking', True), ['looking', 0]]


def is_waking_rule(value):
    return plain.is_waking(value, is_house)


def aged(call, *parameters):
    """The call with an age, in a book with rules of waking, and in one without."""
    return [(call, [A_BOOK, *parameters, NO_AGE]), (call, [FREE_BOOK, *parameters, AGE])]


CALLS = [
    (lets_clocks, [TRUST]),
    (next_state, [MACHINE, STATE, ('letter', 'up', BAD_LETTERS)]),
    (made_of, [MACHINE, STATE, ('row', ('up', 'down'), BAD_ROWS)]),
    (answer_of, [MACHINE, STATE, LOOK]),
    (only_looks, [MACHINE, ('looks', ('low',), BAD_LOOKS + [()])]),
    (
        renumbered,
        [
            MACHINE,
            ('states', (2, 0, 1), ODD + [(0, 1), (0, 1, 2, 2), [0, 1, 2], (0, True, 2), (0, 0, 2), (0, 1, 3), (0, 1, 2, 0)]
             + [(-1, 0, 1), (0, 1, None), (False, 1, 2), (0, 1, '2'), (0, 1, [2])]),
        ],
    ),
    (
        renamed_machine,
        [
            MACHINE,
            ('letters', ('z', 'y'), odd_beside(are_two_names, ('z',), ('z', 'y', 'x'), ['z', 'y'], ('z', 'any'), ('z', 'z'), ('z', 'y', 'y'))),
            ('looks', ('b', 'a'), odd_beside(are_two_names, ('z',), ('z', 'y', 'x'), ['z', 'y'], ('A', 'z'), ('z', ['y']), ('y', 'z', 'y'))),
        ],
    ),
    (
        side_by_side,
        [
            MACHINE,
            (
                'other', (LETTERS, ('mid',), ((0, 0),), ((1,),)),
                BAD_MACHINES + [DIAL, LAMP, (LETTERS, ('low',), ((0, 0),), ((1,),)), (LETTERS, ('aa', 'high'), ((0, 0),), ((1, 1),))],
            ),
        ],
    ),
    (houses_of, [TRUST]),
    (lots_at, [TRUST, HOUSE]),
    (fears_at, [TRUST, HOUSE]),
    (with_lot, [TRUST, HOUSE, ('lot', ('b',), BAD_HOUSE_SETS + [()])]),
    (with_fear, [TRUST, HOUSE, ('fear', ('b', 'c'), BAD_HOUSE_SETS + [('a',), ('a', 'b'), ('a', 'b', 'c')])]),
    (
        renamed_trust,
        [
            TRUST,
            ('names', (('a', 'b'), ('b', 'a')), [value for value in ODD if value != ()] + [
                (('a', 'b'),), (('a', 'c'), ('b', 'c')), (('a', 'x'), ('a', 'y')), (('b', 'x'), ('a', 'y')), (('d', 'x'),),
                (('a', 'any'),), (('a', 'X'),), (['a', 'x'],), [('a', 'x')], (('a', 'x', 'y'),), (('a',),), (('a', ['x']),),
                (('a', 'x'), ('a', 'x')), ((['a'], 'x'),), (('a', None),), ('ax',), (('a', 'abcdefghi'),),
            ]),
        ],
    ),
    (machine_text, [MACHINE]),
    (book_text, [('book', SMALL, ODD + [value for value in changes_of(SMALL) if not plain.is_book(value)])]),
    (reachable_states, [MACHINE]),
    (row_to, [MACHINE, STATE]),
    (alike_classes, [MACHINE, SOME_LOOKS]),
    (are_alike, [MACHINE, STATE, OTHER, SOME_LOOKS]),
    (parting_row, [MACHINE, STATE, OTHER, SOME_LOOKS]),
    (
        starts_alike,
        [
            MACHINE,
            ('other', DIAL, BAD_MACHINES + [LAMP, (LETTERS, ('low',), ((0, 0),), ((1,),)), (('a', 'up'),) + DIAL[1:]]),
        ],
    ),
    (least_machine, [MACHINE]),
    (folded, [MACHINE]),
    (moves_past, [MACHINE, LOOK, AGE]),
    (least_look_age, [MACHINE, LOOK]),
    (moving_walk, [MACHINE, LOOK, AGE]),
    (is_moving, [MACHINE, LOOK, AGE]),
    (settles, [MACHINE, SOME_LOOKS, MANY]),
    (right_many, [MACHINE, SOME_LOOKS]),
    (unlike_walk, [MACHINE, SOME_LOOKS, MANY]),
    (partings_of, [MACHINE, SOME_LOOKS, MANY]),
    (alike_paper, [MACHINE, STATE, OTHER, SOME_LOOKS]),
    (lets_alike, [MACHINE, STATE, OTHER, SOME_LOOKS]),
    (Walk, [MACHINE, STATE, ('row', ('up',), BAD_ROWS)]),
    (is_safe, [TRUST, HOUSE, FALL]),
    (safe_houses, [TRUST, FALL]),
    (greatest_falls, [TRUST, HOUSE]),
    (common_falls, [TRUST, HOUSE, ('other', 'c', BAD_HOUSES)]),
    (odds_fall, [TRUST, ('one', ('a', 1), BAD_PAIRS), ('other', ('b', 2), BAD_PAIRS)]),
    (all_odds, [TRUST]),
    (without_pairs, [TRUST, ('pairs', PAIRS_OF, odd_among(PAIRS_OF, are_pairs) + [PAIRS_OF[::-1], (('a', 0), ('a', 1), ('a', 2))])]),
    (least_dropped, [TRUST]),
    (needs_of, [TRUST, HOUSE]),
    (meets_needs, [TRUST, HOUSE, LOT]),
    (first_missed, [TRUST, HOUSE, LOT]),
    (least_lots, [TRUST, HOUSE]),
    (fewest_lot, [TRUST, HOUSE]),
    (trusts_alike, [TRUST, OTHER_TRUST]),
    (parting_lot, [TRUST, OTHER_TRUST]),
    (odds_paper, [TRUST]),
    (needs_paper, [TRUST, HOUSE]),
    (lets_odds, [TRUST]),
    (lets_needs, [TRUST, HOUSE]),
    (table_of, [BOUND_HOUSES, BOUNDS_OF]),
    (gap_of, [TABLE_CLOCKS, ('one', 'a', BAD_NAMES), ANY_OTHER]),
    (way_of, [BOUND_HOUSES, BOUNDS_OF, ('one', 'a', OF_HOUSES), ('other', 'c', OF_HOUSES)]),
    (table_paper, [BOUND_HOUSES, BOUNDS_OF]),
    (lets_table, [BOUND_HOUSES, BOUNDS_OF]),
    (
        fits,
        [
            TABLE_CLOCKS, TABLE_HOUSES,
            ('setting', (0, -4, -1, 7), odd_among((0, -4, -1, 7), lambda value: plain.is_tuple(value, 4) and all(map(plain.is_integer, value)))),
        ],
    ),
    (any_setting, [TABLE_CLOCKS, TABLE_HOUSES]),
    (
        filled_setting,
        [TABLE_CLOCKS, TABLE_HOUSES, ('shifts', (('b', 1), ('x', 7)), odd_among((('b', 1), ('x', 7)), lambda value: are_untils(value, is_some_house)))],
    ),
    (extreme_setting, [TABLE_CLOCKS, TABLE_HOUSES, ('house', 'a', OF_HOUSES), ('low', -9, BAD_INTEGERS)]),
    (surely_before, [TABLE_CLOCKS, ANY_HOUSE, ('first', 10, BAD_INTEGERS), ANY_OTHER, ('last', 13, BAD_INTEGERS)]),
    (least_until, [TABLE_CLOCKS, ANY_HOUSE, ('end', 10, BAD_INTEGERS), ANY_OTHER]),
    (longest_for, LONGEST),
    (longest_paper, LONGEST),
    (lets_longest, LONGEST),
    (with_bound, [TABLE_CLOCKS, ('bound', ('b', 'zz', 3), odd_among(('b', 'zz', 3), is_bound) + [('b', 'b', 3)])]),
    (without_house, [TABLE_CLOCKS, ANY_HOUSE]),
    (turned_clocks, [TABLE_CLOCKS]),
    (is_run, [A_BOOK]),
    (lets_run, [A_BOOK]),
    (votes_in, [A_BOOK, RUN, HOUSE]),
    (learned_in, [A_BOOK, RUN, HOUSE]),
    (height_in, [A_BOOK, RUN, HOUSE]),
    (greatest_in, [A_BOOK, RUN, HOUSE]),
    (state_in, [A_BOOK, RUN, HOUSE]),
    (looks_in, [A_BOOK, RUN]),
    (clash_in, [A_BOOK, RUN]),
    *aged(run_is_one, RUN),
    *aged(run_row, RUN),
    *aged(first_break, RUN),
    *aged(lets_row, RUN),
    (lasting, [A_BOOK, RULE]),
    (catches, [A_BOOK, RULE, LOT]),
    *aged(rule_lacks, RULE),
    *aged(rule_is_right, RULE),
    (waking_is_right, [A_BOOK, WAKING]),
    *aged(longest_end, PROMISED),
    *aged(least_untils, PROMISED),
    *aged(run_of_rule, RULE),
    (run_of_waking, [A_BOOK, WAKING]),
    (run_of_odds, [('book', TORN, BAD_BOOKS), ('one', ('a', 1), BAD_PAIRS), ('other', ('b', 2), BAD_PAIRS)]),
    (moved, [A_BOOK, RUN, ('by', 4, BAD_INTEGERS)]),
    (without_events, [A_BOOK, RUN, ('indexes', (6, 7), [value for value in ODD if value != ()] + [(3,), (7, 6), (8,), [7], (True,)])]),
    (shortened, [A_BOOK, ('run', PLAIN, BAD_RUNS), NO_AGE]),
    *aged(is_as_one),
    *aged(faults_of),
    *aged(first_fault),
    (faults_in, [A_BOOK, FALL]),
    *aged(fault_run, ('fault', ('looking', 1), ODDS_RULES)),
    (least_age, [('book', WRONG, BAD_BOOKS + [SOUND, BOOK, MIXED])]),
    (book_paper, [A_BOOK]),
    (lets_book, [A_BOOK]),
    (kept_rules, [('book', SOUND, BAD_BOOKS + [TORN])]),
    (least_changes, [A_BOOK]),
    (with_longest_ends, [A_BOOK]),
    (with_rule, [A_BOOK, ('rule', ('b', 4), odd_among(('b', 4), is_waking_rule))]),
    (without_rule, [A_BOOK, ('fault', ('looking', 2), ODDS_RULES)]),
    (books_alike, [A_BOOK, ('other', BOOK, BAD_BOOKS + [FREE, SOUND])]),
    (an_ask_for, [A_BOOK, HOUSE, ('looks', LIT, odd_beside(lambda value: type(value) is tuple and value == LIT, ['lit'], ('lit', 'lit')))]),
]
JUDGING = {
    lets_clocks: (), is_moving: ((), ('up',)), lets_alike: ('alike', (0, 1, 2)), lets_odds: ('odds', ('a', 1), ('b', 2), ('c',)),
    lets_needs: needs_paper(THREE, 'a'), lets_table: table_paper(NAMES, SOME_BOUNDS),
    lets_longest: longest_paper(TABLE, 'a', SOME_SETS, ('a', 'zz'), UNTILS), is_run: LATE, lets_run: LATE, lets_row: ('on',), lets_book: ('run', PLAIN),
}


def split(call, names, values):
    """The values that are passed by position, and those by name, as they can be passed so alone."""
    known = inspect.signature(call).parameters
    named = [name for name in names if known[name].kind is inspect.Parameter.KEYWORD_ONLY]
    told = dict(zip(names, values))
    return [told[name] for name in names if name not in named], {name: told[name] for name in named}


class Parameters(Case):
    def refused_so(self, word, call, names, values):
        args, named = split(call, names, values)
        self.refused(word, call, *args, **named)

    def arguments(self, call, parameters):
        values = [value for _, value, _ in parameters]
        names = [name for name, _, _ in parameters]
        if call in JUDGING:
            values.append(JUDGING[call])
            names.append('thing')
        return names, values

    def test_each_parameter_alone(self):
        for call, parameters in CALLS:
            names, values = self.arguments(call, parameters)
            for k, (name, _, bad) in enumerate(parameters):
                for value in bad:
                    with self.subTest(call=call.__name__, name=name, value=value):
                        late = values[:k] + [value] + values[k + 1 :]
                        self.refused_so(name, call, names, late)
                        self.refused(name, call, **dict(zip(names, late)))

    def test_two_at_once(self):
        for call, parameters in CALLS:
            names, values = self.arguments(call, parameters)
            for one, two in combinations(range(len(parameters)), 2):
                late = list(values)
                for first in parameters[one][2][:40]:
                    for second in parameters[two][2][-3:]:
                        late[one], late[two] = first, second
                        self.refused_so(parameters[one][0], call, names, late)
                        self.refused(parameters[one][0], call, **dict(zip(reversed(names), reversed(late))))

    def test_all_wrong(self):
        for call, parameters in CALLS:
            names, values = self.arguments(call, parameters)
            late = [None] * len(parameters) + [None] * (call in JUDGING)
            self.refused_so(names[0], call, names, late)

    def test_right_ones_by_name_too(self):
        for call, parameters in CALLS:
            names, values = self.arguments(call, parameters)
            if call in (lets_alike,):
                values[3] = ()
                values[4] = ('alike', (0, 0, 0))
            args, named = split(call, names, values)
            self.same(call(*args, **named), call(**dict(zip(names, values))))
            self.same(call(*args, **named), call(**dict(zip(reversed(names), reversed(values)))))

    def test_things_are_judged_ahead_of_nothing(self):
        """A thing that is wrong, too, is not looked at before the parameters."""
        for thing in ODD:
            self.refused('machine', is_moving, None, 'low', 1, thing)
            self.refused('age', is_moving, DIAL, 'low', True, thing)
            self.refused('trust', lets_clocks, None, thing)
            self.refused('looks', lets_alike, DIAL, 0, 1, ('zz',), thing)
            self.refused('trust', lets_odds, None, thing)
            self.refused('house', lets_needs, THREE, 'd', thing)
            self.refused('bounds', lets_table, NAMES, None, thing)
            self.refused('promises', lets_longest, TABLE, 'a', SOME_SETS, (), None, thing)
            self.refused('book', is_run, None, thing)
            self.refused('book', lets_run, None, thing)
            self.refused('run', lets_row, BOOK, None, thing, age=None)
            self.refused('age', lets_row, BOOK, LATE, thing, age=1)
            self.refused('book', lets_book, None, thing)

    def test_texts(self):
        for call in (machine_read, book_read):
            for value in BAD_TEXTS:
                self.refused('text', call, value)
                self.refused('text', call, text=value)
        self.same(machine_read(text=machine_text(LAMP)), LAMP)
        self.same(book_read(text=book_text(BOOK)), BOOK)

    def test_great_numbers_are_let(self):
        great = 10 ** 60 - 1
        self.same(moves_past(LAMP, 'lit', great), True)
        self.same(moves_past(DIAL, 'high', 0), True)
        self.same(settles(LAMP, ('lit',), great), True)
        self.same(settles(DIAL, ('low',), great), False)
        self.same(unlike_walk(LAMP, ('lit',), great), None)
        self.same(is_moving(LAMP, 'lit', great, ((), ('on',))), False)
