"""Points 2, 3, 4, 6, 7, 15: whether any value is one."""

from random import Random

from actasone.kinds import (
    is_book, is_clocks, is_integer, is_looking, is_machine, is_name, is_number, is_trust, is_waking,
)
from actasone.machineclasses import Machine
from actasone.trustclasses import Trust
from tests import plain
from tests.cases import Case
from tests.samples import (
    BOOK, CALM, DEEP, DIAL, DIGITS60, FOUR, LAMP, LONE, LOOKS, NEAR, ODD, ROUND, SMALL, SPARE, THREE, WIDE, changes_of,
    large_machines, small_machines, trusts,
)

ALL = (
    (is_integer, plain.is_integer),
    (is_number, plain.is_number),
    (is_name, plain.is_name),
    (is_machine, plain.is_machine),
    (is_trust, plain.is_trust),
    (is_clocks, plain.is_clocks),
    (is_looking, plain.is_looking),
    (is_waking, plain.is_waking),
    (is_book, plain.is_book),
)


class Kinds(Case):
    def each(self, judge, good, bad):
        for value in good:
            with self.subTest(value=value):
                self.same(judge(value), True)
                self.same(judge(thing=value), True)
        for value in bad:
            with self.subTest(value=value):
                self.same(judge(value), False)
                self.same(judge(thing=value), False)

    def test_integers(self):
        good = [0, 1, -1, DIGITS60, -DIGITS60, 10 ** 60]
        bad = [True, False, None, '1', '', (), [], (1,), [1], 'any']
        self.each(is_integer, good, bad)
        self.each(is_number, [0, 1, DIGITS60], bad + [-1, -DIGITS60])

    def test_names(self):
        good = ['a', 'z', 'abcdefgh', 'anyone', 'an', 'ny', 'many', 'state', 'zzzzzzzz']
        bad = ['', 'abcdefghi', 'any', 'A', 'aB', 'a1', '1', 'a b', ' a', 'a\n', '\n', 'a-b', '-', 'a,b', 'a_b', '`', '{']
        bad += [None, True, 1, ('a',), ['a'], ('a', 'b'), [], ()]
        self.each(is_name, good, bad)

    def test_machines(self):
        good = [LAMP, DIAL, SPARE, ROUND, WIDE, (('a', 'b'), ('a',), ((0, 0),), ((DIGITS60,),))]
        good += list(small_machines(20)) + list(large_machines(5))
        bad = [
            (('a',), ('l',), ((0,),), ((0,),)),
            (('a', 'any'), ('l',), ((0, 0),), ((0,),)),
            (('b', 'a'), ('l',), ((0, 0),), ((0,),)),
            (('a', 'a'), ('l',), ((0, 0),), ((0,),)),
            (('a', 'b'), (), ((0, 0),), ((),)),
            (('a', 'b'), ('l',), (), ()),
            (('a', 'b'), ('l',), ((0, 1),), ((0,),)),
            (('a', 'b'), ('l',), ((0, False),), ((0,),)),
            (('a', 'b'), ('l',), ((0, 0),), ((True,),)),
            (('a', 'b'), ('l',), ((0, 0),), ((-1,),)),
            (('a', 'b'), ('l',), ((0, -1),), ((0,),)),
            (('a', 'b'), ('l',), ((0, 0),), ((0,), (0,))),
            list(LAMP), LAMP + ((),), LAMP[:3], CALM, BOOK,
        ]
        self.each(is_machine, good, bad)

    def test_trusts(self):
        good = [THREE, CALM, FOUR, LONE, (('a', (('a',),), ((),)),)] + list(trusts(20))
        bad = [
            (), [], (('a', (), ((),)),), (('a', ((),), ((),)),), (('a', (('a',),), ()),), (('a', (('a',),), (('a',),)),),
            (('a', (('b',),), ((),)),), (('a', (('a',),), (('b',),)),), (('any', (('any',),), ((),)),),
            CALM[::-1], CALM[:1] + CALM[:1], list(CALM), (list(CALM[0]),) + CALM[1:],
            (('a', (('a', 'a'),), ((),)),), (('a', (('a',), ('a',)), ((),)),), LAMP, BOOK,
        ]
        self.each(is_trust, good, bad)

    def test_clocks(self):
        good = [
            (), NEAR, (('a', 'b', 2),), (('a', 'b', -2), ('b', 'a', 2)), (('a', 'b', DIGITS60),),
            (('a', 'b', -DIGITS60), ('b', 'a', DIGITS60)), (('zebra', 'a', 0),),
            (('a', 'b', 1), ('a', 'c', 3), ('b', 'c', 2)),
        ]
        bad = [
            [], (('a', 'b', -2), ('b', 'a', 1)), (('a', 'a', 0),), (('a', 'b', True),), (('a', 'b', 'any'),),
            (('a', 'b', 1), ('a', 'b', 2)), (('b', 'a', 1), ('a', 'b', 1)), (('a', 'b', 1), ('b', 'c', 2)),
            (('a', 'b', 1), ('a', 'c', 4), ('b', 'c', 2)), (('a', 'any', 1),), (('a', 'b'),), ('a', 'b', 2),
            (('a', 'B', 1),), (('a', 'b', 1, 1),), (['a', 'b', 1],), (('a', 'b', None),), (('a', ['b'], 1),),
        ]
        self.each(is_clocks, good, bad)

    def test_gaps_there_and_back(self):
        for gap in (0, 1, -1, 5, DIGITS60, -DIGITS60):
            self.same(is_clocks((('a', 'b', gap), ('b', 'a', -gap))), True)
            self.same(is_clocks((('a', 'b', gap), ('b', 'a', 1 - gap))), True)
            self.same(is_clocks((('a', 'b', gap), ('b', 'a', -gap - 1))), False)

    def test_rules_of_looking(self):
        good = list(LOOKS) + [
            ('a', ('x',), (), 'any', ()), ('a', ('x', 'y'), ('b', 'c'), -5, ()), ('a', ('x',), (), 0, (('a', 1),)),
            ('a', ('x',), ('a',), DIGITS60, (('b', -DIGITS60), ('c', 0))),
        ]
        bad = [
            ('a', (), (), 'any', ()), ('a', ('x',), (), 'any', (('b', 1),)), ('a', ('x',), (), True, ()),
            ('a', ('x',), (), None, ()), ('a', ('x',), (), 'all', ()), ('any', ('x',), (), 0, ()),
            ('a', ('x',), (), 0, (('b', 1), ('b', 2))), ('a', ('x',), (), 0, (('c', 1), ('b', 2))),
            ('a', ('x',), (), 0, (('b', True),)), ('a', ('x',), (), 0, (('b', 'any'),)), ('a', ('x',), (), 0, [('b', 1)]),
            ('a', ('x',), (), 0, (['b', 1],)), ('a', ('y', 'x'), (), 0, ()), ('a', ('x', 'x'), (), 0, ()),
            ('a', ('x',), ('c', 'b'), 0, ()), ('a', ['x'], (), 0, ()), ('a', 'x', (), 0, ()), ['a', ('x',), (), 0, ()],
            ('a', ('x',), (), 0), ('a', ('x',), (), 0, (), ()), ('a', ('x',), (), ['any'], ()), ('a', ('x',), 'b', 0, ()),
        ]
        self.each(is_looking, good, bad)

    def test_rules_of_waking(self):
        good = [('a', 1), ('abcdefgh', 3), ('b', DIGITS60)]
        bad = [('a', 0), ('a', -1), ('a', True), ('a', '1'), ('any', 1), ['a', 1], ('a',), ('a', 1, 1), (1, 'a'), 'a1']
        self.each(is_waking, good, bad + [(('a',), 1), (['a'], 1), ('a', [1]), ('A', 1)])

    def test_books(self):
        good = [BOOK, SMALL, (LAMP, THREE, (), (), ()), (LAMP, LONE, (('b', 'a', -3),), (), (('b', 1),))]
        bad = [
            (LAMP, THREE, (('a', 'd', 1),), (), ()), (LAMP, THREE, (), (('d', ('lit',), (), 0, ()),), ()),
            (LAMP, THREE, (), (('a', ('dim',), (), 0, ()),), ()), (LAMP, THREE, (), (('a', ('lit',), ('d',), 0, ()),), ()),
            (LAMP, THREE, (), (('a', ('lit',), (), 0, (('d', 1),)),), ()), (LAMP, THREE, (), (), (('d', 1),)),
            (LAMP, THREE, (), [], ()), (LAMP, THREE, (), (), []), (LAMP, THREE, [], (), ()), (THREE, LAMP, (), (), ()),
            (LAMP, THREE, (), ()), (LAMP, THREE, (), (), (), ()), list(BOOK), (LAMP, THREE, None, (), ()),
        ]
        self.each(is_book, good, bad)

    def test_values_of_all_kinds(self):
        for judge, wanted in ALL:
            for value in ODD + [LAMP, CALM, NEAR, LOOKS[2], ('a', 1), BOOK, [DEEP], ([LAMP],)]:
                with self.subTest(judge=judge.__name__, value=value):
                    self.same(judge(value), bool(wanted(value)))

    def test_one_place_changed(self):
        for judge, wanted, values in (
            (is_machine, plain.is_machine, (LAMP, DIAL, ROUND)),
            (is_trust, plain.is_trust, (THREE, LONE)),
            (is_clocks, plain.is_clocks, (NEAR, (('a', 'b', -1), ('b', 'a', 1)))),
            (is_looking, plain.is_looking, LOOKS),
            (is_waking, plain.is_waking, (('a', 1),)),
            (is_book, plain.is_book, (SMALL, BOOK[:2] + ((), LOOKS[:3], (('a', 1), ('b', 2))))),
        ):
            for value in values:
                self.same(judge(value), True)
                for late in changes_of(value):
                    self.same((late, judge(late)), (late, bool(wanted(late))))

    def test_gaps_by_turns(self):
        random = Random(5)
        tables = 0
        for k in range(3000):
            names = ('a', 'b', 'c', 'd')[: 2 + k % 3]
            chance = (0.4, 0.9, 1)[k % 3]
            low = random.choice((-1, 0))
            triples = tuple(
                (p, q, random.randint(low, 2)) for p in names for q in names if p != q and random.random() < chance
            )
            self.same((triples, is_clocks(triples)), (triples, plain.is_clocks(triples)))
            tables += plain.is_clocks(triples) and len(triples) > 3
        self.assertGreater(tables, 20)

    def test_great_ones_are_not_refused(self):
        """Point 13: the limits are none for the kinds."""
        letters = tuple(sorted(a + b for a in 'abcdefgh' for b in 'abcdefgh'))
        many = 60
        machine = (
            letters, letters, tuple(tuple((s + k) % many for k in range(64)) for s in range(many)), ((7,) * 64,) * many,
        )
        self.same(is_machine(machine), True)
        trust = tuple((house, (letters,), ((),)) for house in letters)
        self.same(is_trust(trust), True)
        clocks = tuple((p, q, 5) for p in letters for q in letters if p != q)
        self.same(is_clocks(clocks), True)
        self.same(is_clocks(clocks[:-1]), False)
        looking = tuple((house, letters, letters, 'any', ()) for house in letters)
        self.same(is_book((machine, trust, clocks, looking, tuple((house, DIGITS60) for house in letters))), True)

    def test_objects_are_none(self):
        for judge, _ in ALL:
            self.same(judge(Machine(*LAMP)), False)
            self.same(judge(Trust(*CALM)), False)
