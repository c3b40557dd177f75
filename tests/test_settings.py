"""Points 6, 10, 47, 48, 49: settings, and how far clocks can be apart."""

from itertools import combinations, product
from random import Random

from actasone.extremes import extreme_setting, least_until, surely_before
from actasone.settings import any_setting, filled_setting, fits
from tests import plainclocks as plainly
from tests.cases import Case
from tests.samples import ABC, NEAR, TABLE, some_bounds

# Tables from bounds, some of them for more houses than have gaps.
TABLES = [(plainly.table_of(houses, bounds), houses) for houses, bounds in some_bounds(200, seed=27) if plainly.has_table(houses, bounds)]
TABLES += [(TABLE, ABC), (TABLE, ABC + ('d',)), (NEAR, ABC), ((), ABC), ((), ()), ((('a', 'c', -4),), ('a', 'b', 'c', 'd'))]
SIX = 10 ** 6 - 1
SMALL = [(clocks, houses) for clocks, houses in TABLES if len(houses) <= 3]


def is_setting(houses, value):
    return type(value) is tuple and len(value) == len(houses) and all(type(shift) is int for shift in value)


class Fits(Case):
    def test_example(self):
        self.same([fits(TABLE, ABC, (0, -4, -2)), fits(TABLE, ABC, any_setting(TABLE, ABC))], [False, True])

    def test_all_settings(self):
        told = set()
        for clocks, houses in SMALL:
            for setting in plainly.settings(houses, 4):
                self.same(fits(clocks, houses, setting), plainly.keeps(houses, clocks, setting))
                told.add(fits(clocks, houses, setting))
        self.assertEqual(told, {True, False})

    def test_edges(self):
        """The shift of to less that of from is at most the gap."""
        clocks = (('a', 'b', 2), ('b', 'a', -1))
        self.same([fits(clocks, ('a', 'b'), (0, shift)) for shift in (0, 1, 2, 3)], [False, True, True, False])
        self.same([fits(clocks, ('a', 'b'), (shift, 0)) for shift in (0, -1, -2, -3)], [False, True, True, False])
        self.same([fits((), (), ()), fits((), ABC, (SIX, -SIX, 10 ** 59))], [True, True])
        self.same(fits((('a', 'b', SIX),), ('a', 'b'), (10 ** 59, 10 ** 59 + SIX)), True)
        self.same(fits((('a', 'b', SIX),), ('a', 'b'), (10 ** 59, 10 ** 59 + SIX + 1)), False)

    def test_wrong_settings(self):
        for setting in (
            (0, 0), (0, 0, 0, 0), [0, 0, 0], (0, 0, True), (False, 0, 0), (0, 0, None), (0, 0, '0'), (0, 0, (0,)), None, 0, '000', (),
            (0, 0, [0]), (0, 0, 'any'),
        ):
            self.refused('setting', fits, TABLE, ABC, setting)


class AnySetting(Case):
    def test_all(self):
        for clocks, houses in TABLES:
            setting = any_setting(clocks, houses)
            self.assertTrue(is_setting(houses, setting))
            self.assertTrue(plainly.keeps(houses, clocks, setting))

    def test_nobody(self):
        self.same(any_setting((), ()), ())

    def test_great_gaps_below_nought(self):
        clocks = (('a', 'b', -SIX), ('b', 'a', SIX))
        setting = any_setting(clocks, ('a', 'b'))
        self.same(setting[1] - setting[0], -SIX)


class Filled(Case):
    def look_at(self, clocks, houses, shifts):
        told = dict(shifts)
        setting = filled_setting(clocks, houses, shifts)
        kept = all(
            plainly.gap_of(clocks, one, other) == 'any' or told[other] - told[one] <= plainly.gap_of(clocks, one, other)
            for one in told
            for other in told
        )
        if setting is None:
            self.assertFalse(kept)
            return False
        self.assertTrue(kept)
        self.assertTrue(is_setting(houses, setting))
        self.assertTrue(plainly.keeps(houses, clocks, setting))
        self.assertTrue(all(setting[houses.index(house)] == shift for house, shift in shifts))
        return True

    def test_some_of_the_houses(self):
        """Shifts of some houses can be filled exactly if those of each two keep the gap between them."""
        random = Random(3)
        told = []
        for clocks, houses in TABLES:
            for many in range(len(houses) + 1):
                for some in combinations(houses, many):
                    for _ in range(4):
                        told.append(self.look_at(clocks, houses, tuple((house, random.randint(-4, 4)) for house in some)))
        self.assertGreater(min(told.count(True), told.count(False)), 100)

    def test_none_where_no_setting_has_them(self):
        """Against all settings within a span that is wide enough for these gaps."""
        for clocks, houses in SMALL[:40]:
            for some in [(house,) for house in houses] + list(combinations(houses, 2)):
                for told in product((-3, 0, 2), repeat=len(some)):
                    shifts = tuple(zip(some, told))
                    found = any(
                        all(setting[houses.index(house)] == shift for house, shift in shifts) and plainly.keeps(houses, clocks, setting)
                        for setting in plainly.settings(houses, 10 if len(houses) < 3 else 9)
                    )
                    if not found:
                        self.same(filled_setting(clocks, houses, shifts), None)
                    self.look_at(clocks, houses, shifts)

    def test_all_told(self):
        self.same(filled_setting(TABLE, ABC, (('a', 0), ('b', -4), ('c', -1))), (0, -4, -1))
        self.same(filled_setting(TABLE, ABC, (('a', 0), ('b', -4), ('c', -2))), None)
        self.same(filled_setting(TABLE, ABC, (('a', 0), ('c', -2))), None)
        self.same(filled_setting((), (), ()), ())

    def test_wrong_shifts(self):
        for shifts in (
            (('b', 1), ('a', 0)), (('a', 0), ('a', 1)), (('a', 0), ('a', 0)), [('a', 0)], (['a', 0],), (('a', True),), (('a', None),), None,
            (('d', 0),), (('a',),), (('a', 0, 0),), ('a', 0), 'a', (('A', 0),), ((['a'], 0),), (('a', '0'),), (('a', 0), ('d', 0)), 0, {},
            (('a', 'any'),), ((0, 'a'),),
        ):
            self.refused('shifts', filled_setting, TABLE, ABC, shifts)


class Extreme(Case):
    def test_example(self):
        self.same(extreme_setting(TABLE, ABC, 'a', -9), (0, -4, -1))

    def test_all(self):
        many = 0
        for clocks, houses in TABLES:
            for house in houses:
                for low in (-SIX, -7, 0, 3, SIX):
                    setting = extreme_setting(clocks, houses, house, low)
                    self.assertTrue(is_setting(houses, setting))
                    self.assertTrue(plainly.keeps(houses, clocks, setting), (clocks, houses, house, low, setting))
                    for name, shift in zip(houses, setting):
                        gap = plainly.gap_of(clocks, name, house)
                        if gap == 'any':
                            many += 1
                            self.assertLessEqual(shift, low)
                        else:
                            self.same(shift, -gap)
        self.assertGreater(many, 200)

    def test_alone(self):
        self.same([extreme_setting((), ('a',), 'a', 5), extreme_setting((), ('a',), 'a', -5)], [(0,), (0,)])

    def test_one_without_a_gap_that_is_close_to_another_one(self):
        """From c and d no gap leads to a; but they are bound to each other, and from b."""
        clocks = (('b', 'a', 3), ('b', 'c', -5), ('b', 'd', -9), ('c', 'd', -4), ('d', 'c', 4))
        setting = extreme_setting(clocks, ('a', 'b', 'c', 'd'), 'a', 100)
        self.assertEqual(setting[:2], (0, -3))
        self.assertTrue(plainly.keeps(('a', 'b', 'c', 'd'), clocks, setting))


class Surely(Case):
    def test_example(self):
        self.same([surely_before(TABLE, 'a', 10, 'b', 13), surely_before(TABLE, 'a', 10, 'b', 14)], [False, True])

    def test_all_settings(self):
        """Where it is not sure, the setting in which the other clocks are as low as they can be breaks it."""
        for clocks, houses in SMALL:
            fitting = [setting for setting in plainly.settings(houses, 6) if plainly.keeps(houses, clocks, setting)]
            for (k, one), (j, other) in product(enumerate(houses), repeat=2):
                low = extreme_setting(clocks, houses, one, -99)
                self.assertTrue(plainly.keeps(houses, clocks, low))
                for last in range(-5, 6):
                    surely = surely_before(clocks, one, 0, other, last)
                    self.assertIs(surely, surely_before(clocks, one, 20, other, 20 + last))
                    self.assertIs(surely, all(setting[k] <= last + setting[j] for setting in fitting + [low]))

    def test_the_same_house_and_no_house(self):
        for clocks in (TABLE, ()):
            self.same([surely_before(clocks, 'x', 3, 'x', last) for last in (2, 3, 4)], [False, True, True])
            self.same([surely_before(clocks, 'x', 3, 'a', 10 ** 59), surely_before(clocks, 'a', 3, 'x', 10 ** 59)], [False, False])
        self.same(surely_before((('a', 'b', 5),), 'a', 0, 'b', 99), False)
        self.same([surely_before((('a', 'b', 5),), 'b', 0, 'a', last) for last in (4, 5)], [False, True])


class LeastUntil(Case):
    def test_example(self):
        self.same([least_until(TABLE, 'a', 10, 'b'), least_until((), 'a', 10, 'b')], [14, None])

    def test_all(self):
        for clocks, houses in TABLES:
            for one, other in product(houses + ('zz',), repeat=2):
                for end in (-SIX, 0, 7):
                    until = least_until(clocks, one, end, other)
                    if until is None:
                        self.assertEqual(plainly.gap_of(clocks, other, one), 'any')
                    else:
                        self.assertIs(type(until), int)
                        lasts = [plainly.catches(clocks, one, end, (other,), (), ((other, late),)) for late in (until, until - 1)]
                        self.assertEqual(lasts, [True, False])

    def test_surely_before_the_until(self):
        """The end of the rule is surely not behind the least until, and behind each lesser one it may be."""
        for clocks, houses in TABLES:
            for one, other in product(houses, repeat=2):
                until = least_until(clocks, one, 10, other)
                if until is not None:
                    self.same([surely_before(clocks, one, 10, other, late) for late in (until - 1, until)], [False, True])
