"""Points 4, 12, 34, 35: who is safe."""

from itertools import combinations, product

from actasone.falls import common_falls, greatest_falls, is_safe, safe_houses
from tests import plain
from tests.cases import Case
from tests.samples import CALM, FOUR, LONE, THREE, set_in, trusts

FIVE = 'abcde'
NESTED = tuple(
    (
        house, ((house,),),
        tuple(sorted({fear for k in range(4) for fear in combinations(FIVE.replace(house, ''), k) if k != 2 or 'b' in fear})),
    )
    for house in FIVE
)
TRUSTS = [THREE, CALM, FOUR, LONE, NESTED] + list(trusts(80))


class Falls(Case):
    def test_example(self):
        self.same(
            [is_safe(THREE, 'a', ('b',)), is_safe(THREE, 'a', ('b', 'c')), is_safe(THREE, 'a', ('a',)), safe_houses(THREE, ()),
             safe_houses(CALM, ('a',))],
            [True, False, False, ('a', 'b', 'c'), ()],
        )
        self.same(
            [greatest_falls(THREE, 'a'), common_falls(THREE, 'a', 'b'), common_falls(CALM, 'a', 'b'), common_falls(FOUR, 'a', 'b')],
            [(('b',), ('c',)), (('c',),), ((),), (('c',), ('d',))],
        )

    def test_all_falls(self):
        for trust in TRUSTS:
            houses = [entry[0] for entry in trust]
            for fall in plain.all_falls(trust):
                safe = tuple(house for house in houses if plain.is_safe(trust, house, fall))
                self.same(tuple(house for house in houses if is_safe(trust, house, fall)), safe)
                self.same([is_safe(trust, house, fall) for house in houses], [house in safe for house in houses])
                self.same(safe_houses(trust, fall), safe)

    def test_greatest(self):
        for trust in TRUSTS:
            for house in [entry[0] for entry in trust]:
                wanted = plain.greatest([fall for fall in plain.all_falls(trust) if plain.is_safe(trust, house, fall)])
                self.same(greatest_falls(trust, house), wanted)
                self.same(common_falls(trust, house, house), wanted)

    def test_common(self):
        for trust in TRUSTS:
            houses = [entry[0] for entry in trust]
            for one, two in product(houses, repeat=2):
                both = [
                    fall for fall in plain.all_falls(trust) if plain.is_safe(trust, one, fall) and plain.is_safe(trust, two, fall)
                ]
                self.same(common_falls(trust, one, two), plain.greatest(both))

    def test_consequences(self):
        for trust in TRUSTS:
            houses = tuple(entry[0] for entry in trust)
            self.same(safe_houses(trust, ()), houses)
            for fall in plain.all_falls(trust):
                for house in safe_houses(trust, fall):
                    for k in range(len(fall)):
                        self.same(is_safe(trust, house, fall[:k] + fall[k + 1 :]), True)
                for one, two in product(safe_houses(trust, fall), repeat=2):
                    self.assertTrue(any(set(fall) <= set(late) for late in common_falls(trust, one, two)))
            for house, _, fears in trust:
                self.same(greatest_falls(trust, house), plain.greatest(fears))

    def test_fears_within_one_another(self):
        trust = set_in(CALM, (0, 2), ((), ('b',), ('b', 'c'), ('c',)))
        self.same(greatest_falls(trust, 'a'), (('b', 'c'),))
        self.same([is_safe(trust, 'a', fall) for fall in ((), ('b',), ('c',), ('b', 'c'), ('a', 'b'))], [True] * 4 + [False])
        self.same(common_falls(trust, 'a', 'b'), ((),))
        self.same(common_falls(set_in(trust, (1, 2), (('a', 'c'), ('c',))), 'a', 'b'), (('c',),))

    def test_a_part_of_two_fears_is_none(self):
        self.same([is_safe(FOUR, 'a', ('b',)), is_safe(FOUR, 'a', ('b', 'c')), is_safe(FOUR, 'b', ('b',))], [True, False, False])

    def test_by_name(self):
        self.same(is_safe(fall=('b',), house='a', trust=THREE), True)
        self.same(safe_houses(fall=('b',), trust=THREE), ('a', 'c'))
        self.same(greatest_falls(house='a', trust=LONE), (('b',),))
        self.same(common_falls(other='c', house='b', trust=THREE), (('a',),))
