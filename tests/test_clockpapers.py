"""Point 46: papers on tables from bounds, and their checker."""

from itertools import permutations
from random import Random

from actasone.clockchecker import lets_table
from actasone.clockpapers import table_paper
from tests import plainclocks as plainly
from tests.cases import Case
from tests.samples import ABC, BOUNDS, ODD, TABLE, changes_of, some_bounds

CASES = list(some_bounds(150, seed=17))
WAYS = (('a', 'b'), ('a', 'b', 'c'), ('b', 'c', 'a'), ('b', 'c'), ('c', 'a'), ('c', 'a', 'b'))
PAPER = ('table', TABLE, WAYS)
LOSS = (('a', 'b', 2), ('b', 'a', -3), ('b', 'c', 1), ('c', 'b', -1))
NONE = ('none', ('b', 'a'))


class Papers(Case):
    def test_example(self):
        self.same(lets_table(ABC, BOUNDS, table_paper(ABC, BOUNDS)), True)

    def test_papers(self):
        told = []
        for houses, bounds in CASES:
            paper = table_paper(houses, bounds)
            told.append(plainly.has_table(houses, bounds))
            self.same(plainly.table(houses, bounds, paper), [told[-1]])
            self.same(lets_table(houses, bounds, paper), told[-1])
            if told[-1]:
                self.same(paper[1], plainly.table_of(houses, bounds))
                for triple, way in zip(paper[1], paper[2]):
                    self.same((way[0], way[-1], plainly.sum_of(bounds, way)), triple)
            else:
                self.same(paper[0], 'none')
        self.assertGreater(min(told.count(True), told.count(False)), 30)

    def test_without_bounds(self):
        self.same(table_paper((), ()), ('table', (), ()))
        self.same(table_paper(ABC, ()), ('table', (), ()))
        self.same(lets_table((), (), ('table', (), ())), True)


class Checker(Case):
    def look_at(self, thing, houses=ABC, bounds=BOUNDS):
        return self.judged(plainly.table(houses, bounds, thing), lets_table, houses, bounds, thing)

    def test_right_ones(self):
        self.same(lets_table(ABC, BOUNDS, PAPER), True)
        self.same(lets_table(ABC, LOSS, NONE), False)
        self.same(lets_table(ABC, LOSS, ('none', ('a', 'b'))), False)

    def test_shape(self):
        for thing in ODD + [
            PAPER[:2], PAPER + ((),), list(PAPER), ('table', TABLE, list(WAYS)), ('table', list(TABLE), WAYS), ('none',), ('none', 'ab'),
            ('none', ['b', 'a']), NONE + ((),), ('table', ()), ('none', (), ()), ('Table',) + PAPER[1:], (None,) + PAPER[1:], ['none', ()],
            ('tables', (), ()), (('table',), (), ()), (['none'], ()), 'none', ('table', None, ()), ('table', (), None), ('none', None),
        ]:
            self.wrong('shape', -1, lets_table, ABC, BOUNDS, thing)
            self.look_at(thing)

    def test_clocks(self):
        for clocks in (
            (1,), TABLE[::-1], TABLE + TABLE[-1:], (('a', 'b', 2), ('b', 'c', 3)), (('a', 'a', 0),), (('a', 'b', True),), (('a', 'B', 1),),
            (['a', 'b', 2],), (('a', 'b', '2'),), (('a', 'b', None),), (('a', 'b'),), (('any', 'b', 1),), (('a', 'b', 'any'),),
        ):
            self.wrong('clocks', -1, lets_table, ABC, BOUNDS, ('table', clocks, ()))
            self.wrong('clocks', -1, lets_table, ABC, BOUNDS, ('table', clocks, WAYS))

    def test_a_table_of_other_houses(self):
        """It is a clock table, but there is no way between houses that are none."""
        table = (('x', 'y', 2),)
        for way in (('x', 'y'), ('a', 'b'), (), None, ('x',)):
            self.wrong('way', 0, lets_table, ABC, BOUNDS, ('table', table, (way,)))
        self.wrong('ways', -1, lets_table, ABC, BOUNDS, ('table', table, ()))
        self.wrong('way', 6, lets_table, ABC, BOUNDS, ('table', TABLE + table, WAYS + (('x', 'y'),)))

    def test_ways(self):
        for ways in ((), WAYS[1:], WAYS + WAYS[:1], WAYS + (None,), (None,) * 5):
            self.wrong('ways', -1, lets_table, ABC, BOUNDS, ('table', TABLE, ways))

    def test_way(self):
        for k in range(6):
            for way in (
                None, (), 'ab', list(WAYS[k]), WAYS[k][:1], WAYS[k][::-1], WAYS[k] * 2, WAYS[k] + ('d',), (WAYS[k],), (['a'], 'b'),
                WAYS[k][:1] + WAYS[k], WAYS[(k + 1) % 6], (None, 'b'), ('b', 'a'), ('c', 'b'),
            ):
                self.wrong('way', k, lets_table, ABC, BOUNDS, ('table', TABLE, WAYS[:k] + (way,) + WAYS[k + 1 :]))
                self.wrong('way', k, lets_table, ABC, BOUNDS, ('table', TABLE, WAYS[:k] + (way,) + (None,) * (5 - k)))

    def test_sum(self):
        """The way from a straight to c is a way, but a longer one."""
        self.wrong('sum', 1, lets_table, ABC, BOUNDS, ('table', TABLE, WAYS[:1] + (('a', 'c'),) + WAYS[2:]))
        self.wrong('sum', 1, lets_table, ABC, BOUNDS, ('table', TABLE, WAYS[:1] + (('a', 'c'),) + (None,) * 4))
        self.wrong('way', 0, lets_table, ABC, BOUNDS, ('table', TABLE, (None, ('a', 'c')) + WAYS[2:]))
        table = tuple(triple[:2] + (triple[2] - (triple[:2] == ('b', 'a')),) for triple in TABLE)
        self.wrong('sum', 2, lets_table, ABC, BOUNDS, ('table', table, WAYS))
        # The least one of several bounds tells the sum.
        self.same(lets_table(ABC, (('a', 'b', 5), ('a', 'b', 2)), ('table', (('a', 'b', 2),), (('a', 'b'),))), True)
        self.wrong('sum', 0, lets_table, ABC, (('a', 'b', 5), ('a', 'b', 2)), ('table', (('a', 'b', 5),), (('a', 'b'),)))

    def test_bound(self):
        self.wrong('bound', 0, lets_table, ABC, BOUNDS, ('table', (), ()))
        self.wrong('bound', 1, lets_table, ABC, BOUNDS, ('table', TABLE[:1], WAYS[:1]))
        bounds = (('a', 'b', 4), ('b', 'c', 3), ('a', 'c', 7), ('a', 'c', 6))
        paper = ('table', (('a', 'b', 4), ('a', 'c', 7), ('b', 'c', 3)), (('a', 'b'), ('a', 'b', 'c'), ('b', 'c')))
        self.wrong('bound', 3, lets_table, ABC, bounds, paper)
        self.same(lets_table(ABC, bounds[:3], paper), True)
        self.wrong('sum', 1, lets_table, ABC, bounds, ('table', paper[1], (('a', 'b'), ('a', 'c'), ('b', 'c'))))

    def test_ring(self):
        for ring in (
            (), ('a',), ('a', 'c'), ('b', 'a', 'c'), ('a', 'a'), ('a', 'b', 'a'), ('a', 'b', 'a', 'b'), ('a', 'd'), (None, 'a'), ('a', ['b']),
            (('a', 'b'),), ('d', 'e'), ('A', 'B'), ('a', 0), ('c', 'a'),
        ):
            self.wrong('ring', -1, lets_table, ABC, LOSS, ('none', ring))

    def test_ring_sum(self):
        self.wrong('sum', -1, lets_table, ABC, LOSS, ('none', ('b', 'c')))
        self.wrong('sum', -1, lets_table, ABC, LOSS, ('none', ('c', 'b')))
        self.wrong('sum', -1, lets_table, ABC, BOUNDS, ('none', ('c', 'a', 'b')))
        self.same(lets_table(ABC, LOSS + (('c', 'b', -2),), ('none', ('c', 'b'))), False)

    def test_all_rings(self):
        for houses, bounds in CASES[:60]:
            for many in range(1, len(houses) + 1):
                for ring in list(permutations(houses, many))[:30]:
                    self.look_at(('none', ring), houses, bounds)

    def test_changed_in_one_place(self):
        for houses, bounds, paper in ((ABC, BOUNDS, PAPER), (ABC, LOSS, NONE), (('a', 'b'), (('a', 'b', 1), ('b', 'a', 1)), None)):
            paper = paper or table_paper(houses, bounds)
            self.assertEqual({self.look_at(thing, houses, bounds) for thing in changes_of(paper)} - {'let'} != set(), True)

    def test_two_places(self):
        """Two changes at once: what is looked at first is told."""
        random = Random(9)
        changed = list(changes_of(PAPER))
        told = set()
        for _ in range(1500):
            one, two = random.choice(changed), random.choice(changed)
            if type(one) is tuple and type(two) is tuple and len(one) == len(two) == 3:
                told.add(self.look_at((one[0], one[1], two[2])))
                told.add(self.look_at((one[0], two[1], one[2])))
        self.assertGreaterEqual(told, {'shape', 'clocks', 'ways', 'way', 'sum'})
