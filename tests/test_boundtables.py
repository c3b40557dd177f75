"""Points 6, 44, 45: tables from bounds."""

from itertools import permutations

from actasone.boundtables import gap_of, table_of, way_of
from actasone.errors import NoTable
from tests import plain
from tests import plainclocks as plainly
from tests.cases import Case, told
from tests.samples import ABC, BOUNDS, NEAR, TABLE, some_bounds

CASES = list(some_bounds(200))
RIGHT = [case for case in CASES if plainly.has_table(*case)]
WRONG = [case for case in CASES if not plainly.has_table(*case)]


class Tables(Case):
    def no_table(self, houses, bounds, call, *args):
        """NoTable with a ring of these bounds that begins with the least of its houses."""
        with self.assertRaises(NoTable) as caught:
            call(*args)
        ring, total = caught.exception.ring, caught.exception.total
        self.assertIn(ring, plainly.rings(houses, bounds))
        self.same(total, plainly.rings(houses, bounds)[ring])
        self.assertLess(total, 0)
        self.assertEqual(sorted(vars(caught.exception)), ['ring', 'total'])

    def test_example(self):
        self.same(table_of(ABC, BOUNDS), TABLE)
        self.raised(NoTable, {'ring': ('a', 'b'), 'total': -1}, table_of, ABC, (('b', 'a', -3), ('a', 'b', 2)))

    def test_all_ways(self):
        self.assertGreater(len(RIGHT), 40)
        for houses, bounds in RIGHT:
            self.same(table_of(houses, bounds), plainly.table_of(houses, bounds))
            self.assertTrue(plain.is_clocks(table_of(houses, bounds)))

    def test_all_rings(self):
        self.assertGreater(len(WRONG), 40)
        for houses, bounds in WRONG:
            self.no_table(houses, bounds, table_of, houses, bounds)
            self.no_table(houses, bounds, way_of, houses, bounds, houses[0], houses[-1])
            self.no_table(houses, bounds, way_of, houses, bounds, houses[0], houses[0])

    def test_just_these_settings(self):
        """A setting within a span keeps all bounds exactly if it fits the table."""
        for houses, bounds in [case for case in RIGHT if len(case[0]) <= 4][:60]:
            table = table_of(houses, bounds)
            for setting in plainly.settings(houses, 4 if len(houses) < 4 else 2):
                self.assertEqual(plainly.keeps(houses, bounds, setting), plainly.keeps(houses, table, setting))
        for houses, bounds in [case for case in WRONG if len(case[0]) <= 3][:30]:
            self.assertFalse(any(plainly.keeps(houses, bounds, setting) for setting in plainly.settings(houses, 7)))

    def test_of_a_table_it_is_the_table(self):
        for houses, bounds in RIGHT:
            table = plainly.table_of(houses, bounds)
            self.same(table_of(houses, table), table)
        self.same(table_of(ABC, NEAR), NEAR)

    def test_nought_and_one_less(self):
        for total in (0, 1):
            self.same(table_of(ABC, (('a', 'b', -5), ('b', 'a', 5 + total))), (('a', 'b', -5), ('b', 'a', 5 + total)))
        self.raised(NoTable, {'ring': ('a', 'b'), 'total': -1}, table_of, ABC, (('a', 'b', -5), ('b', 'a', 4)))
        ring = (('a', 'c', 7), ('b', 'a', -3), ('c', 'b', -4))
        self.same(
            table_of(ABC, ring), (('a', 'b', 3), ('a', 'c', 7), ('b', 'a', -3), ('b', 'c', 4), ('c', 'a', -7), ('c', 'b', -4)),
        )
        for k in range(3):
            late = ring[:k] + (ring[k][:2] + (ring[k][2] - 1,),) + ring[k + 1 :]
            self.raised(NoTable, {'ring': ('a', 'c', 'b'), 'total': -1}, table_of, ABC, late)

    def test_several_bounds_for_a_pair(self):
        self.same(table_of(ABC, (('a', 'b', 5), ('a', 'b', 2), ('a', 'b', 9), ('a', 'b', 2))), (('a', 'b', 2),))
        self.raised(
            NoTable, {'ring': ('a', 'b'), 'total': -2}, table_of, ABC, (('a', 'b', 5), ('b', 'a', 1), ('a', 'b', -3), ('b', 'a', 2)),
        )

    def test_gaps_that_are_any(self):
        self.same(table_of(ABC, ()), ())
        self.same(table_of((), ()), ())
        self.same(table_of(('a',), ()), ())
        self.same(table_of(ABC, (('b', 'c', -9),)), (('b', 'c', -9),))
        self.same(table_of(ABC, (('a', 'b', 2), ('c', 'b', 3))), (('a', 'b', 2), ('c', 'b', 3)))
        self.same(table_of(('a', 'b', 'c', 'd'), (('a', 'b', 2), ('c', 'd', 3))), (('a', 'b', 2), ('c', 'd', 3)))

    def test_great_gaps(self):
        six = 10 ** 6 - 1
        names = ('a', 'b', 'c', 'd', 'e')
        bounds = tuple((one, other, six) for one, other in zip(names, names[1:])) + (('e', 'a', -4 * six),)
        table = table_of(names, bounds)
        self.same(gap_of(table, 'a', 'e'), 4 * six)
        self.same(gap_of(table, 'd', 'b'), -2 * six)
        self.raised(NoTable, {'ring': names, 'total': -1}, table_of, names, bounds + (('e', 'a', -4 * six - 1),))

    def test_many_rings_at_once(self):
        names = ('a', 'b', 'c', 'd', 'e')
        bounds = tuple(pair + (-1,) for pair in permutations(names, 2))
        self.no_table(names, bounds, table_of, names, bounds)
        self.no_table(names, bounds[::-1], table_of, names, bounds[::-1])

    def test_it_is_new(self):
        self.assertIsNot(table_of(ABC, TABLE), TABLE)
        self.assertEqual(told(BOUNDS), told((('a', 'b', 2), ('b', 'c', 3), ('c', 'a', 1), ('a', 'c', 9))))


class Gaps(Case):
    def test_example(self):
        self.same([gap_of(TABLE, 'b', 'a'), gap_of(TABLE, 'a', 'd')], [4, 'any'])

    def test_all(self):
        for houses, bounds in RIGHT:
            table = plainly.table_of(houses, bounds)
            for one in houses + ('zz',):
                for other in houses + ('zz', 'yy'):
                    self.same(gap_of(table, one, other), plainly.gap_of(table, one, other))

    def test_names_that_are_no_houses(self):
        self.same([gap_of((), 'x', 'x'), gap_of((), 'x', 'y'), gap_of(TABLE, 'd', 'd'), gap_of(TABLE, 'd', 'a')], [0, 'any', 0, 'any'])
        self.same(gap_of((('a', 'b', -2),), 'b', 'a'), 'any')


class Ways(Case):
    def test_example(self):
        self.same(way_of(ABC, BOUNDS, 'a', 'c'), ('a', 'b', 'c'))

    def test_all_ways(self):
        for houses, bounds in RIGHT:
            for one in houses:
                self.same(way_of(houses, bounds, one, one), (one,))
                for other in houses:
                    found = plainly.ways(houses, bounds, one, other)
                    way = way_of(houses, bounds, one, other)
                    if one != other and found:
                        self.assertIs(type(way), tuple)
                        self.assertEqual(found[way], min(found.values()))
                    elif one != other:
                        self.same(way, None)

    def test_a_ring_far_from_the_way(self):
        bounds = (('a', 'b', 1), ('c', 'd', -2), ('d', 'c', 1))
        for one, other in (('a', 'b'), ('b', 'a'), ('a', 'a')):
            self.raised(NoTable, {'ring': ('c', 'd'), 'total': -1}, way_of, ('a', 'b', 'c', 'd'), bounds, one, other)

    def test_rings_of_nought(self):
        names = ('a', 'b', 'c', 'd')
        bounds = (('a', 'b', 1), ('b', 'c', -1), ('c', 'b', 1), ('b', 'd', 2), ('c', 'd', 3), ('d', 'a', -3))
        for one in names:
            for other in names:
                if one != other:
                    found = plainly.ways(names, bounds, one, other)
                    self.assertEqual(found[way_of(names, bounds, one, other)], min(found.values()))
