"""Points 4, 19, 20: trustparts and trustchanges."""

from random import Random

from actasone.kinds import is_trust
from actasone.trustchanges import renamed_trust, with_fear, with_lot
from actasone.trustparts import fears_at, houses_of, lots_at
from tests.cases import Case
from tests.samples import CALM, FEARS, FOUR, LONE, PAIRS, THREE, TRIOS, some_of, trusts

TRUSTS = [THREE, CALM, FOUR, LONE] + list(trusts(40))


class Parts(Case):
    def test_parts(self):
        self.same([houses_of(FOUR), lots_at(FOUR, 'c'), fears_at(FOUR, 'c')], [('a', 'b', 'c', 'd'), TRIOS, FEARS[2]])
        for trust in TRUSTS:
            self.same(houses_of(trust), tuple(entry[0] for entry in trust))
            for house, lots, fears in trust:
                self.same((lots_at(trust, house), fears_at(trust, house)), (lots, fears))


class With(Case):
    def test_lot(self):
        late = with_lot(CALM, 'b', ('a', 'b', 'c'))
        self.same(late, (CALM[0], ('b', (('a', 'b'), ('a', 'b', 'c'), ('a', 'c'), ('b', 'c')), ((),)), CALM[2]))
        self.same(with_lot(CALM, 'c', ('c',))[2][1], PAIRS + (('c',),))
        self.same(with_lot(CALM, 'a', ('a',))[0][1], (('a',),) + PAIRS)

    def test_lot_that_it_has(self):
        for lot in PAIRS:
            self.same(with_lot(THREE, 'a', lot), THREE)

    def test_fear(self):
        late = with_fear(THREE, 'b', ('a', 'c'))
        self.same(late, (THREE[0], ('b', PAIRS, (('a',), ('a', 'c'), ('c',))), THREE[2]))
        self.same(with_fear(THREE, 'b', ())[1][2], ((), ('a',), ('c',)))
        self.same(with_fear(THREE, 'b', ('c',)), THREE)

    def test_all_else_remains(self):
        random = Random(2)
        for trust in TRUSTS:
            houses = houses_of(trust)
            for house in houses:
                lot = some_of(random, houses) or houses[:1]
                late = with_lot(trust, house, lot)
                self.assertTrue(is_trust(late))
                fear = some_of(random, [other for other in houses if other != house])
                feared = with_fear(trust, house, fear)
                self.assertTrue(is_trust(feared))
                for other in houses:
                    lots = set(lots_at(trust, other)) | ({lot} if other == house else set())
                    self.same(lots_at(late, other), tuple(sorted(lots)))
                    self.same(fears_at(late, other), fears_at(trust, other))
                    fears = set(fears_at(trust, other)) | ({fear} if other == house else set())
                    self.same(fears_at(feared, other), tuple(sorted(fears)))
                    self.same(lots_at(feared, other), lots_at(trust, other))


class Renamed(Case):
    def test_all_at_once(self):
        self.same(renamed_trust(LONE, (('a', 'b'), ('b', 'a'))), (('a', (('a',),), ((),)), ('b', (('a',),), (('a',),))))
        self.same(
            renamed_trust(LONE, (('a', 'z'),)), (('b', (('b',),), ((),)), ('z', (('b',),), (('b',),))),
        )

    def test_sets_ascend_anew(self):
        late = renamed_trust(THREE, (('a', 'z'),))
        pairs = (('b', 'c'), ('b', 'z'), ('c', 'z'))
        self.same(late, (('b', pairs, (('c',), ('z',))), ('c', pairs, (('b',), ('z',))), ('z', pairs, (('b',), ('c',)))))

    def test_the_same_names(self):
        for trust in TRUSTS:
            self.same(renamed_trust(trust, ()), trust)
            self.same(renamed_trust(trust, tuple((house, house) for house in houses_of(trust))), trust)

    def test_two_of_one_name(self):
        self.refused('names', renamed_trust, THREE, (('a', 'b'),))
        self.refused('names', renamed_trust, THREE, (('a', 'b'), ('b', 'c')))
        self.refused('names', renamed_trust, THREE, (('a', 'x'), ('c', 'x')))
        self.assertTrue(is_trust(renamed_trust(THREE, (('a', 'b'), ('b', 'c'), ('c', 'a')))))

    def test_each_house_as_ahead(self):
        random = Random(3)
        names = ['a', 'b', 'c', 'd', 'e', 'x', 'anyone', 'abcdefgh']
        for trust in TRUSTS:
            houses = houses_of(trust)
            late = dict(zip(houses, random.sample(names, len(houses))))
            renamed = renamed_trust(trust, tuple(sorted(late.items())))
            self.assertTrue(is_trust(renamed))
            for house, lots, fears in trust:
                for sets, part in ((lots, lots_at), (fears, fears_at)):
                    wanted = sorted(tuple(sorted(late[name] for name in one)) for one in sets)
                    self.same(part(renamed, late[house]), tuple(wanted))
