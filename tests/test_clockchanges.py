"""Points 45, 52, 53: tables changed, and tables as objects."""

from random import Random

from actasone.clockchanges import turned_clocks, with_bound, without_house
from actasone.clockclasses import Clocks
from actasone.errors import NotUsable, NoTable
from tests import plain
from tests import plainclocks as plainly
from tests.cases import Case, told
from tests.samples import ABC, BOUNDS, NEAR, ODD, TABLE, some_bounds

TABLES = [plainly.table_of(*case) for case in some_bounds(150, seed=47) if plainly.has_table(*case)] + [(), TABLE, NEAR]
PLACED = [case for case in some_bounds(120, seed=48) if plainly.has_table(*case)]


def names_in(bounds):
    return tuple(sorted({name for bound in bounds for name in bound[:2]}))


class Changes(Case):
    def test_example(self):
        self.same(
            [with_bound(TABLE, ('b', 'a', 0))[2], without_house(TABLE, 'c'), turned_clocks((('a', 'b', 2),))],
            [('b', 'a', 0), (('a', 'b', 2), ('b', 'a', 4)), (('b', 'a', 2),)],
        )

    def test_with_bound(self):
        random = Random(49)
        told = []
        for clocks in TABLES:
            for _ in range(8):
                one, other = random.sample(('a', 'b', 'c', 'd', 'x'), 2)
                bound = (one, other, random.randint(-6, 6))
                bounds = clocks + (bound,)
                told.append(plainly.has_table(names_in(bounds), bounds))
                if told[-1]:
                    late = with_bound(clocks, bound)
                    self.same(late, plainly.table_of(names_in(bounds), bounds))
                    for begin, end, gap in clocks:
                        self.assertLessEqual(plainly.gap_of(late, begin, end), gap)
                else:
                    with self.assertRaises(NoTable) as caught:
                        with_bound(clocks, bound)
                    rings = plainly.rings(names_in(bounds), bounds)
                    self.same(rings[caught.exception.ring], caught.exception.total)
                    self.assertLess(caught.exception.total, 0)
        self.assertGreater(min(told.count(True), told.count(False)), 30)

    def test_with_a_bound_that_says_nothing(self):
        self.same(with_bound(TABLE, ('a', 'c', 5)), TABLE)
        self.same(with_bound(TABLE, ('a', 'c', 6)), TABLE)
        self.assertIsNot(with_bound(TABLE, ('a', 'c', 6)), TABLE)

    def test_with_a_bound_of_any_two_names(self):
        self.same(with_bound((), ('x', 'y', -3)), (('x', 'y', -3),))
        self.same(
            with_bound((('a', 'b', 2),), ('b', 'zz', 3)), (('a', 'b', 2), ('a', 'zz', 5), ('b', 'zz', 3)),
        )

    def test_nought_and_one_less(self):
        self.same(with_bound((('a', 'b', 2),), ('b', 'a', -2)), (('a', 'b', 2), ('b', 'a', -2)))
        self.raised(NoTable, {'ring': ('a', 'b'), 'total': -1}, with_bound, (('a', 'b', 2),), ('b', 'a', -3))

    def test_wrong_bounds(self):
        for bound in (
            ('a', 'a', 2), ('a', 'b', True), ('a', 'b', 'any'), ('a', 'b', None), ['a', 'b', 2], ('a', 'b'), ('a', 'b', 2, 2), ('A', 'b', 2), None,
            ('a', ['b'], 2), ('any', 'b', 2), 'ab2', (), ('a', 'b', '2'), ('a', 0, 2), (('a', 'b', 2),),
        ):
            self.refused('bound', with_bound, TABLE, bound)

    def test_without_house(self):
        for clocks in TABLES:
            for house in ('a', 'b', 'c', 'd', 'e', 'zz'):
                late = without_house(clocks, house)
                self.same(late, tuple(triple for triple in clocks if triple[0] != house and triple[1] != house))
                self.assertTrue(plain.is_clocks(late))

    def test_turned(self):
        for clocks in TABLES:
            late = turned_clocks(clocks)
            self.assertTrue(plain.is_clocks(late))
            self.same(late, tuple(sorted((end, begin, gap) for begin, end, gap in clocks)))
            self.same(turned_clocks(late), clocks)

    def test_turned_settings(self):
        for setting in plainly.settings(ABC, 5):
            self.assertEqual(
                plainly.keeps(ABC, TABLE, setting), plainly.keeps(ABC, turned_clocks(TABLE), tuple(-shift for shift in setting)),
            )


class Objects(Case):
    def setUp(self):
        self.it = Clocks(ABC, *BOUNDS)

    def tearDown(self):
        """Whatever happened, it never changes."""
        self.same([self.it.houses_now, self.it.table_now, len(self.it), list(self.it)], [ABC, TABLE, 6, list(TABLE)])

    def test_example(self):
        it = self.it
        self.same([it('c', 'b'), ('a', 'c', 5) in it, it == Clocks(ABC, *TABLE), (it + ('b', 'a', 0))('b', 'a')], [3, True, True, 0])

    def test_all(self):
        for houses, bounds in PLACED:
            it = Clocks(houses, *bounds)
            table = plainly.table_of(houses, bounds)
            self.same([it.houses_now, it.table_now, len(it), list(it), tuple(it)], [houses, table, len(table), list(table), table])
            for one in houses + ('zz',):
                for other in houses + ('zz',):
                    self.same(it(one, other), plainly.gap_of(table, one, other))

    def test_wrong_houses(self):
        for houses in (['a'], ('b', 'a'), ('a', 'a'), ('A',), 'abc', None, (['a'],), (('a',),), 3, True, ('a', 'any'), ('a', None)):
            self.refused('houses', Clocks, houses)
            self.refused('houses', Clocks, houses, ('a', 'b', 2))
            self.refused('houses', Clocks, houses, None)

    def test_wrong_bounds(self):
        for bound in (
            ('a', 'a', 2), ('a', 'd', 2), ('d', 'a', 2), ('a', 'b', True), ('a', 'b', 'any'), ['a', 'b', 2], ('a', 'b'), ('a', 'b', 2, 2), None,
            ('a', ['b'], 2), (('a', 'b', 2),), (), 'ab2', ('A', 'b', 2), ('a', 'b', None), 0,
        ):
            self.refused('bounds', Clocks, ABC, bound)
            self.refused('bounds', Clocks, ABC, ('a', 'b', 2), bound, ('b', 'c', 1))
            self.refused('bound', lambda: self.it + bound)
        self.refused('bounds', Clocks, (), ('a', 'b', 2))

    def test_wrong_bounds_ahead_of_no_table(self):
        loss = (('a', 'b', 2), ('b', 'a', -3))
        self.raised(NoTable, {'ring': ('a', 'b'), 'total': -1}, Clocks, ABC, *loss)
        self.refused('bounds', Clocks, ABC, *loss, None)
        self.refused('houses', Clocks, None, *loss)

    def test_by_name(self):
        it = Clocks(houses=ABC)
        self.same([it.table_now, len(it), list(it), it('a', 'b')], [(), 0, [], 'any'])
        self.same(self.it(other='b', one='c'), 3)

    def test_nobody(self):
        it = Clocks(())
        self.same([it.houses_now, it.table_now, len(it), it('x', 'x')], [(), (), 0, 0])
        self.refused('bound', lambda: it + ('a', 'b', 1))

    def test_names_that_are_no_houses(self):
        self.same([self.it('a', 'x'), self.it('x', 'a'), self.it('x', 'x'), self.it('x', 'y')], ['any', 'any', 0, 'any'])
        for value in (None, 'A', 'any', ['a'], ('a',), 0, True, '', 'abcdefghi'):
            self.refused('one', self.it, value, 'b')
            self.refused('one', self.it, value, value)
            self.refused('other', self.it, 'a', value)

    def test_thing_in_it(self):
        for triple in TABLE:
            self.assertIs(triple in self.it, True)
            self.assertIs(list(triple) in self.it, False)
            self.assertIs(triple[:2] + (triple[2] + 1,) in self.it, False)
        for thing in ODD + [('a', 'b'), ('c', 'a', True), ('a', 'd', 2), (['a'], 'b', 2), TABLE, ('a', 'a', 0), ('a', 'c', 9), ('a', 'b', [2])]:
            if thing not in (('a', 'b', 2),) or type(thing) is not tuple:
                self.assertIs(thing in self.it, False)
        self.assertIs(('c', 'a', 1) in self.it, True)
        self.assertIs(('c', 'a', True) in self.it, False)
        self.assertIs(self.it in self.it, False)

    def test_more_bounds(self):
        late = self.it + ('b', 'a', 0)
        self.assertIs(type(late), Clocks)
        self.same([late.houses_now, late.table_now], [ABC, with_bound(TABLE, ('b', 'a', 0))])
        self.assertFalse(late == self.it)
        same = self.it + ('a', 'b', 77)
        self.assertTrue(same == self.it and same is not self.it)
        random = Random(50)
        for houses, bounds in PLACED:
            it = Clocks(houses, *bounds[:-1])
            if bounds:
                late = it + bounds[-1]
                self.same([late.houses_now, late.table_now], [houses, plainly.table_of(houses, bounds)])
            if len(houses) > 1:
                bound = tuple(random.sample(houses, 2)) + (random.randint(-9, 3),)
                more = bounds[:-1] + (bound,)
                if plainly.has_table(houses, more):
                    self.same((it + bound).table_now, plainly.table_of(houses, more))
                else:
                    with self.assertRaises(NoTable) as caught:
                        it + bound
                    self.same(plainly.rings(houses, more)[caught.exception.ring], caught.exception.total)
                    self.same(it.table_now, plainly.table_of(houses, bounds[:-1]))

    def test_a_bound_that_leaves_no_table(self):
        self.raised(NoTable, {'ring': ('a', 'b'), 'total': -1}, lambda: self.it + ('b', 'a', -3))
        self.raised(NotUsable, {'word': 'bound', 'at': -1}, lambda: self.it + ('b', 'd', -3))

    def test_equal(self):
        it = self.it
        self.assertTrue(it == Clocks(ABC, *BOUNDS[::-1]) and it == it)
        self.assertTrue(it == Clocks(ABC, *TABLE) and Clocks(ABC, *TABLE) == it)
        self.assertFalse(it == Clocks(ABC, *BOUNDS[:3][:2]) or it == Clocks(ABC + ('d',), *BOUNDS))
        self.assertTrue(it != Clocks(ABC + ('d',), *BOUNDS))
        for thing in (TABLE, (ABC, TABLE), None, 0, 'it', [it], ABC):
            self.assertIs(it == thing, False)
            self.assertIs(it != thing, True)

    def test_what_it_gives_is_not_what_it_holds(self):
        self.assertEqual(told(list(self.it)), told([triple for triple in self.it]))
        self.assertEqual([iter(self.it) is iter(self.it)], [False])
