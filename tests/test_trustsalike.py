"""Point 41, (W7): trusts compared."""

from actasone.trustchanges import with_fear, with_lot
from actasone.trustsalike import parting_lot, trusts_alike
from tests import plain
from tests.cases import Case
from tests.samples import CALM, FOUR, LAMED, LONE, THREE, full_trusts, renamed_houses, trusts

TRUSTS = [THREE, CALM, FOUR, LAMED, LONE] + list(trusts(45)) + list(full_trusts(4))


class Alike(Case):
    def look_at(self, trust, other):
        """Over all lots: the same ones meet the needs of each house."""
        houses = plain.houses_of(trust)
        needs = {house: (plain.needs_of(trust, house), plain.needs_of(other, house)) for house in houses}
        alike = all(
            plain.meets(needs[house][0], lot) == plain.meets(needs[house][1], lot) for house in houses for lot in plain.all_falls(trust)
        )
        self.assertEqual(alike, all(one == two for one, two in needs.values()))
        self.same([trusts_alike(trust, other), trusts_alike(other, trust)], [alike, alike])
        for told in (parting_lot(trust, other), parting_lot(other, trust)):
            if alike:
                self.same(told, None)
            else:
                self.assertTrue(plain.is_tuple(told, 2) and told[0] in houses and plain.is_fall(trust, told[1]))
                one, two = needs[told[0]]
                self.assertNotEqual(plain.meets(one, told[1]), plain.meets(two, told[1]))
        return alike

    def test_example(self):
        self.same([trusts_alike(CALM, CALM), trusts_alike(CALM, THREE)], [True, False])
        self.same(parting_lot(CALM, CALM), None)

    def test_all_lots(self):
        told = []
        for trust in TRUSTS:
            for other in TRUSTS:
                if plain.houses_of(other) == plain.houses_of(trust):
                    told.append(self.look_at(trust, other))
        self.assertGreater(told.count(True), len(TRUSTS) + 20)
        self.assertGreater(told.count(False), 100)

    def test_a_lot_or_a_fear_more(self):
        for trust in TRUSTS:
            houses = plain.houses_of(trust)
            for house in houses:
                self.look_at(trust, with_lot(trust, house, (house,)))
                self.look_at(trust, with_fear(trust, house, tuple(other for other in houses if other != house)))

    def test_unlike_trusts_that_are_alike(self):
        """A greater lot beside a lesser one, and a fear within another one, change no need."""
        self.assertTrue(self.look_at(CALM, with_lot(CALM, 'b', ('a', 'b', 'c'))))
        self.assertTrue(self.look_at(THREE, with_fear(THREE, 'b', ())))
        self.assertFalse(self.look_at(CALM, with_lot(CALM, 'b', ('b',))))
        self.assertFalse(self.look_at(CALM, with_fear(with_fear(CALM, 'b', ('c',)), 'a', ('c',))))

    def test_an_empty_need(self):
        never = (('a', (('a', 'b'),), (('b',),)), ('b', (('b',),), ((),)), ('c', (('b',),), (('b',),)))
        self.assertEqual(plain.needs_of(never, 'a'), ((),))
        for other in (CALM, THREE):
            self.assertFalse(self.look_at(never, other))

    def test_other_houses(self):
        for other in (FOUR, LONE, CALM[:2], renamed_houses(CALM, 'abd'), renamed_houses(CALM, 'xyz'), None, [], list(CALM), CALM + ((),)):
            self.refused('other', trusts_alike, CALM, other)
            self.refused('other', parting_lot, CALM, other)
