"""Points 10, 50, 51, 53: the longest ends, papers on them, and their checker."""

from random import Random

from actasone.boundtables import gap_of
from actasone.clockchanges import with_bound
from actasone.errors import NoTable
from actasone.longestchecker import lets_longest
from actasone.longestends import longest_for
from actasone.longestpapers import longest_paper
from tests import plainclocks as plainly
from tests.cases import Case
from tests.samples import ABC, NEAR, ODD, TABLE, changes_of, set_of, some_bounds, some_of

SETS, UNTILS = (('a', 'b'), ('a', 'c'), ('b', 'c')), (('b', 14), ('c', 12))
PAPER = ('longest', 11, ('a', 'a', 'c'), 2)
EXAMPLE = (TABLE, 'a', SETS, ('a',), UNTILS)
NAMES = ('a', 'b', 'c', 'd', 'e')
SPAN = range(-40, 41)


def cases(many=300, seed=37):
    """A table, a house, sets, a lot and promises; some of houses that the table does not have."""
    random = Random(seed)
    tables = [plainly.table_of(*case) for case in some_bounds(200, seed=38) if plainly.has_table(*case)]
    for k in range(many):
        sets = tuple(some_of(random, NAMES) for _ in range(random.randint(0, 4)))
        if k % 3:
            sets = tuple(part or ('c',) for part in sets)
        lot = some_of(random, some_of(random, NAMES))
        promises = tuple((house, random.randint(-9, 9)) for house in some_of(random, NAMES))
        yield tables[k % len(tables)], random.choice(NAMES), sets, lot, promises


CASES = list(cases()) + [EXAMPLE]


def catches_all(clocks, house, sets, lot, promises, end):
    return all(plainly.catches(clocks, house, end, part, lot, promises) for part in sets)


class Longest(Case):
    def test_example(self):
        self.same([longest_for(*EXAMPLE), longest_for(TABLE, 'a', SETS, (), UNTILS), longest_for(TABLE, 'a', SETS, ('a', 'b'), ())], [11, 10, 'any'])

    def test_at_that_end_and_one_more(self):
        told = {'any': 0, None: 0, 'end': 0}
        for case in CASES:
            end = longest_for(*case)
            if end == 'any' or end is None:
                told[end] += 1
                self.same([catches_all(*case, late) for late in (-10 ** 70, 0, 10 ** 70)], [end == 'any'] * 3)
            else:
                told['end'] += 1
                self.assertIs(type(end), int)
                self.same([catches_all(*case, late) for late in (end - 10 ** 9, end - 1, end, end + 1)], [True, True, True, False])
        self.assertGreater(min(told.values()), 30)

    def test_all_ends(self):
        for case in CASES:
            ends = [end for end in SPAN if catches_all(*case, end)]
            told = longest_for(*case)
            self.same('any' if len(ends) == len(SPAN) else max(ends, default=None), told)

    def test_the_least_over_all_sets(self):
        """(W5): of the sets without a house of lot the least of the greatest until less gap."""
        for clocks, house, sets, lot, promises in CASES:
            untils = dict(promises)
            each = []
            for part in sets:
                if not set(part) & set(lot):
                    gaps = [(untils[name], plainly.gap_of(clocks, name, house)) for name in part if name in untils]
                    each.append(max([until - gap for until, gap in gaps if gap != 'any'], default=None))
            wanted = None if None in each else min(each, default='any')
            self.same(longest_for(clocks, house, sets, lot, promises), wanted)

    def test_edges(self):
        self.same(longest_for((), 'a', (), (), ()), 'any')
        self.same(longest_for(TABLE, 'a', ((),), ('a', 'b', 'c'), UNTILS), None)
        self.same(longest_for(TABLE, 'a', SETS + ((),), ('a', 'b'), UNTILS), None)
        self.same(longest_for((), 'a', SETS, ('a',), UNTILS), None)
        # A house without a gap to that of the rule is none that lasts, but itself is.
        self.same(longest_for((), 'a', (('a', 'b'),), (), (('a', 7), ('b', 99))), 7)
        self.same(longest_for((), 'zz', (('y', 'zz'),), (), (('y', 8), ('zz', 7))), 7)
        self.same(longest_for((('b', 'a', -3),), 'a', (('b',),), (), (('b', 7),)), 10)
        self.same(longest_for((('a', 'b', 3),), 'a', (('b',),), (), (('b', 7),)), None)
        # The same set twice, and sets in no order.
        self.same(longest_for(TABLE, 'a', (('c',), ('b',), ('c',)), (), UNTILS), 10)
        self.same(longest_for(TABLE, 'a', (('x',),), ('x',), ()), 'any')

    def test_great_numbers(self):
        six = 10 ** 6 - 1
        clocks = (('b', 'a', -six),)
        self.same(longest_for(clocks, 'a', (('b',),), (), (('b', six),)), 2 * six)

    def test_it_does_not_fall(self):
        """By a further bound, by a house more in a set, in lot or in promises, nor by a set left out."""
        random = Random(39)
        for clocks, house, sets, lot, promises in CASES:
            least = self.rank(longest_for(clocks, house, sets, lot, promises))
            more = []
            name = random.choice(NAMES)
            more.append((clocks, house, tuple(set_of(part + (name,)) for part in sets), lot, promises))
            more.append((clocks, house, sets, set_of(lot + (name,)), promises))
            if name not in dict(promises):
                more.append((clocks, house, sets, lot, set_of(promises + ((name, random.randint(-9, 9)),))))
            more.append((clocks, house, sets[1:], lot, promises))
            try:
                more.append((with_bound(clocks, (name, 'zz' if name == house else house, random.randint(-3, 9))), house, sets, lot, promises))
            except NoTable:
                pass
            for case in more:
                self.assertGreaterEqual(self.rank(longest_for(*case)), least)

    def rank(self, end):
        return {None: -10 ** 9, 'any': 10 ** 9}.get(end, end)

    def test_wrong_parts(self):
        for sets in (list(SETS), (['a'],), ('a',), (('b', 'a'),), (('a', 'a'),), (('A',),), None, 'ab', (None,), (('a', ['b']),), (('any',),), 3):
            self.refused('sets', longest_for, TABLE, 'a', sets, ('a',), UNTILS)
        for lot in (['a'], ('b', 'a'), ('a', 'a'), 'a', None, ('A',), (['a'],), (('a',),), 3, True):
            self.refused('lot', longest_for, TABLE, 'a', SETS, lot, UNTILS)
        for promises in (
            [('b', 14)], (['b', 14],), (('c', 1), ('b', 2)), (('b', 1), ('b', 2)), (('b', True),), (('b', 'any'),), (('b',),), None, 'b', ('b', 1),
            (('b', 1, 1),), (('B', 1),), (('b', None),), ((['b'], 1),), (('b', 1), None),
        ):
            self.refused('promises', longest_for, TABLE, 'a', SETS, ('a',), promises)


class Papers(Case):
    def test_papers(self):
        for case in CASES:
            paper = longest_paper(*case)
            end = longest_for(*case)
            self.same(plainly.longest(*case, paper), [end])
            self.same(lets_longest(*case, paper), end)
            self.same(paper[0], {None: 'never', 'any': 'any'}.get(end, 'longest'))

    def test_no_other_end_is_let(self):
        for case in CASES:
            paper = longest_paper(*case)
            if paper[0] == 'longest':
                for end in (paper[1] - 1, paper[1] + 1):
                    late = ('longest', end) + paper[2:]
                    self.assertNotEqual(self.judged(plainly.longest(*case, late), lets_longest, *case, late), 'let')
            for late in (('any',), ('never', 0), ('never', 1), ('longest', 0, ('a',) * len(case[2]), 0)):
                if late[0] != paper[0]:
                    self.assertNotEqual(self.judged(plainly.longest(*case, late), lets_longest, *case, late), 'let')


class Checker(Case):
    def look_at(self, thing, case=EXAMPLE):
        return self.judged(plainly.longest(*case, thing), lets_longest, *case, thing)

    def test_example(self):
        self.same(lets_longest(*EXAMPLE, PAPER), 11)

    def test_right_ones(self):
        for paper in (('longest', 11, ('a', 'a', 'c'), 2), ('longest', 11, ('a', 'c', 'c'), 2)):
            self.same(lets_longest(*EXAMPLE, paper), 11)
        self.same(lets_longest(TABLE, 'a', SETS, ('a', 'b'), (), ('any',)), 'any')
        self.same(lets_longest(TABLE, 'a', (), (), (), ('any',)), 'any')
        self.same(lets_longest((), 'a', SETS, ('a',), UNTILS, ('never', 2)), None)
        self.same(lets_longest(TABLE, 'a', ((),), ABC, UNTILS, ('never', 0)), None)

    def test_shape(self):
        for thing in ODD + [
            list(PAPER), PAPER[:3], PAPER + (0,), ('longest', True, (), 0), ('longest', 11, ['a', 'a', 'c'], 2), ('longest', 11, ('a', 'a', 'c'), True),
            ('longest', 11, ('a', 'a', 'c'), -1), ('longest', None, ('a', 'a', 'c'), 2), ('longest', 'any', ('a', 'a', 'c'), 2), ['any'], ('never', True),
            ('longest', 11, 'aac', 2), ('any', 0), ('any', ()), ('never',), ('never', -1), ('never', '0'), ('never', 0, 0), ('never', None), ['never', 0],
            ('longest',), ('Longest',) + PAPER[1:], (None,) + PAPER[1:], ('never', (0,)), (('any',), 0, (), 0), ('longest', 11, ('a', 'a', 'c'), 2.0),
        ]:
            if thing != ('any',):
                self.wrong('shape', -1, lets_longest, *EXAMPLE, thing)

    def test_set(self):
        self.wrong('set', 2, lets_longest, *EXAMPLE, ('any',))
        self.wrong('set', 0, lets_longest, TABLE, 'a', SETS, ('c',), UNTILS, ('any',))
        self.wrong('set', 0, lets_longest, TABLE, 'a', SETS, (), UNTILS, ('any',))
        self.wrong('set', 1, lets_longest, TABLE, 'a', (('a',), (), ('b',)), ('a',), UNTILS, ('any',))

    def test_many(self):
        for keepers in ((), ('a', 'a'), ('a', 'a', 'c', 'c'), (None,) * 4):
            self.wrong('many', -1, lets_longest, *EXAMPLE, ('longest', 11, keepers, 2))
            self.wrong('many', -1, lets_longest, *EXAMPLE, ('longest', 11, keepers, 9))

    def test_keeper(self):
        for k in range(3):
            for keeper in (None, 'd', ('a',), ['a'], 0, True, 'A', '', {0: 'c', 1: 'b', 2: 'a'}[k], 'b'):
                keepers = PAPER[2][:k] + (keeper,) + PAPER[2][k + 1 :]
                self.wrong('keeper', k, lets_longest, *EXAMPLE, ('longest', 11, keepers, 2))
                self.wrong('keeper', k, lets_longest, *EXAMPLE, ('longest', 11, keepers[: k + 1] + (None,) * (2 - k), 9))
        # With an end that is one more c does not last, with a lesser one b lasts, too.
        self.wrong('keeper', 2, lets_longest, *EXAMPLE, ('longest', 12, ('a', 'a', 'c'), 2))
        self.wrong('promise', 1, lets_longest, *EXAMPLE, ('longest', 10, ('b', 'c', 'b'), 2))

    def test_index(self):
        self.wrong('index', -1, lets_longest, *EXAMPLE, ('longest', 11, ('a', 'a', 'c'), 3))
        self.wrong('index', -1, lets_longest, *EXAMPLE, ('never', 3))
        self.wrong('index', -1, lets_longest, *EXAMPLE, ('never', 10 ** 60 - 1))
        self.wrong('index', -1, lets_longest, TABLE, 'a', (), (), (), ('longest', 0, (), 0))
        self.wrong('index', -1, lets_longest, TABLE, 'a', (), (), (), ('never', 0))

    def test_lot(self):
        for index in (0, 1):
            self.wrong('lot', -1, lets_longest, *EXAMPLE, ('longest', 11, ('a', 'a', 'c'), index))
            self.wrong('lot', -1, lets_longest, *EXAMPLE, ('never', index))

    def test_promise(self):
        self.wrong('promise', 1, lets_longest, *EXAMPLE, ('longest', 10, ('a', 'a', 'c'), 2))
        self.wrong('promise', 0, lets_longest, *EXAMPLE, ('longest', 9, ('a', 'a', 'c'), 2))
        self.wrong('promise', 0, lets_longest, *EXAMPLE, ('never', 2))
        self.wrong('promise', 1, lets_longest, TABLE, 'a', (('c',),), (), UNTILS, ('never', 0))
        # A promise with a gap that is any is none that counts.
        clocks = (('c', 'a', 1),)
        self.wrong('promise', 1, lets_longest, clocks, 'a', SETS, ('a',), UNTILS, ('never', 2))
        self.same(lets_longest(clocks, 'a', SETS, ('a',), UNTILS, ('longest', 11, ('a', 'a', 'c'), 2)), 11)

    def test_changed_in_one_place(self):
        told = set()
        for case in (EXAMPLE, (NEAR, 'b', SETS, (), (('a', 3), ('c', 5))), ((), 'a', SETS, ('a',), UNTILS), (TABLE, 'a', SETS, ('a', 'b'), ())):
            for paper in (longest_paper(*case), PAPER, ('any',), ('never', 2)):
                told |= {self.look_at(thing, case) for thing in changes_of(paper)}
        self.assertEqual(told, {'let', 'shape', 'set', 'many', 'keeper', 'index', 'lot', 'promise'})

    def test_drawn_papers(self):
        random = Random(41)
        for case in CASES:
            for _ in range(8):
                thing = ('longest', random.randint(-8, 8), tuple(random.choice(NAMES) for _ in case[2]), random.randint(0, 4))
                self.look_at(thing, case)
                self.look_at(('never', random.randint(0, 4)), case)
            self.look_at(('any',), case)

    def test_gaps_as_told(self):
        self.same([gap_of(TABLE, 'b', 'a'), gap_of(TABLE, 'c', 'a')], [4, 1])
