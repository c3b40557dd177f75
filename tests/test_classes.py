"""Points 14, 23: machines and trusts as objects."""

from actasone.alikestates import folded
from actasone.errors import InvalidPaper
from actasone.machinechanges import only_looks, side_by_side
from actasone.machineclasses import Machine
from actasone.machineparts import made_of
from actasone.partschecker import lets_machine, lets_trust
from actasone.texts import machine_text
from actasone.trustchanges import renamed_trust, with_fear, with_lot
from actasone.trustclasses import Trust
from actasone.walkclasses import Walk
from tests import plain
from tests.cases import Case, told
from tests.samples import (
    CALM, DIAL, FOUR, LAMP, LONE, ODD, ROUND, SPARE, THREE, WIDE, changes_of, large_machines, set_in, small_machines, trusts,
)

MACHINES = [LAMP, DIAL, SPARE, ROUND, WIDE] + list(small_machines(20)) + list(large_machines(4))
TRUSTS = [THREE, CALM, FOUR, LONE] + list(trusts(20))


class Machines(Case):
    def test_example(self):
        one = Machine(*LAMP)
        self.same([one == Machine.read(str(one)), one[1], one(0, ('on', 'on')), 2 in one], [True, ((0, 1), (1,)), 1, False])

    def test_errors_of_the_checker(self):
        for late in list(changes_of(LAMP)) + [set_in(DIAL, (2, 2), (0, 3)), set_in(DIAL, (3, 1), (0, True))]:
            try:
                lets_machine(late)
            except InvalidPaper as error:
                self.wrong(error.word, error.at, Machine.of, late)
                if type(late) is tuple and len(late) == 4:
                    self.wrong(error.word, error.at, Machine, *late)
            else:
                self.same(Machine.of(late).machine_now, late)
        for late in ODD:
            self.wrong('shape', -1, Machine.of, late)
            self.wrong('letters', -1, Machine, late if late not in (('a', 'b'), ('off', 'on')) else None, (), (), ())
        self.wrong('looks', -1, Machine, ('a', 'b'), None, None, None)
        self.wrong('shape', -1, Machine.of, Machine(*LAMP))

    def test_by_name(self):
        one = Machine(letters=DIAL[0], looks=DIAL[1], moves=DIAL[2], answers=DIAL[3])
        self.same(one.machine_now, DIAL)
        self.same(one(state=1, row=('up',)), 2)
        self.same(Machine.of(machine=DIAL) == one, True)
        self.same(Machine.read(text=machine_text(DIAL)) == one, True)

    def test_parts(self):
        for machine in MACHINES:
            one = Machine(*machine)
            many = len(machine[2])
            self.same(one.machine_now, machine)
            self.same(len(one), many)
            self.same(list(one), [(machine[2][s], machine[3][s]) for s in range(many)])
            self.same([one[s] for s in range(many)], list(one))
            self.same([one.machine_now, str(one)], [machine, machine_text(machine)])
            for row in plain.rows_up_to(machine, 2):
                self.same([one(s, row) for s in range(many)], [made_of(machine, s, row) for s in range(many)])

    def test_iterated_twice_at_once(self):
        one = Machine(*LAMP)
        pairs = list(one)
        self.same([(first, second) for first in one for second in one], [(p, q) for p in pairs for q in pairs])

    def test_states(self):
        one = Machine(*DIAL)
        for value in ODD + [3, 4, -3, '0', 10 ** 60]:
            good = type(value) is int and 0 <= value < 3
            self.same(value in one, good)
            self.same(value not in one, not good)
            if good:
                self.same(one[value], (DIAL[2][value], DIAL[3][value]))
                self.same(one(value, ()), value)
            else:
                self.refused('state', lambda: one[value])
                self.refused('state', one, value, ())
                self.refused('state', one, value, None)
            if not (type(value) is tuple and all(type(part) is str and part in DIAL[0] for part in value)):
                self.refused('row', one, 0, value)
        self.same(one.machine_now, DIAL)

    def test_equal(self):
        one = Machine(*LAMP)
        self.same([one == Machine.of(LAMP), one != Machine.of(LAMP)], [True, False])
        for other in ODD + [LAMP, Machine(*DIAL), Trust(*CALM), Walk(LAMP), str(one), list(LAMP)]:
            self.same([one == other, one != other, other == one], [False, True, False])
        for k in range(4):
            late = (('off', 'out'), ('dim',), ((0, 1), (1, 1)), ((0,), (2,)))[k]
            self.same(one == Machine(*LAMP[:k], late, *LAMP[k + 1 :]), False)

    def test_side_by_side(self):
        for machine in MACHINES:
            other = (machine[0], ('aside', 'tone')) + ROUND[2:3] + (((0, 1), (1, 0), (5, 5)),)
            if len(machine[0]) == 2:
                both = Machine(*machine) | Machine(*other)
                self.assertIs(type(both), Machine)
                self.same(both.machine_now, side_by_side(machine, other))
        one, other = Machine(*LAMP), (LAMP[0], ('tone',)) + LAMP[2:]
        for late in ODD + [LAMP, other, one, Machine(*DIAL), Trust(*CALM), None]:
            self.refused('other', lambda: one | late)
        self.same(one.machine_now, LAMP)
        self.same((one | Machine(*other)).machine_now, side_by_side(LAMP, other))

    def test_only_looks(self):
        one = Machine(*DIAL)
        for looks in (('high',), ('low',), ('high', 'low')):
            late = one & looks
            self.assertIs(type(late), Machine)
            self.same(late.machine_now, only_looks(DIAL, looks))
        for looks in ODD + [('low', 'high'), ['low'], 'low', ('low', 'low'), ('mid',), one]:
            self.refused('looks', lambda: one & looks)
        self.same(one.machine_now, DIAL)

    def test_read(self):
        for machine in MACHINES:
            one = Machine.read(machine_text(machine))
            self.assertIs(type(one), Machine)
            self.same(one.machine_now, machine)
        self.unread(2, 2, Machine.read, 'letters off on\nlooks lit\nstate 0 1 : 0')
        for text in (None, 1, True, ('letters a b',), [], LAMP):
            self.refused('text', Machine.read, text)

    def test_of(self):
        for machine in MACHINES:
            self.assertIs(type(Machine.of(machine)), Machine)
            self.same(Machine.of(folded(machine)).machine_now, folded(machine))

    def test_it_has_no_setter(self):
        with self.assertRaises(AttributeError):
            Machine(*LAMP).machine_now = DIAL


class Trusts(Case):
    def test_errors_of_the_checker(self):
        for late in changes_of(THREE):
            if type(late) is not tuple:
                continue
            try:
                lets_trust(late)
            except InvalidPaper as error:
                self.wrong(error.word, error.at, Trust, *late)
            else:
                self.same(Trust(*late).trust_now, late)
        self.wrong('shape', -1, Trust)
        for late in ODD:
            self.wrong('lots' if late == ('a', 'b', 2) else 'house', 0, Trust, late)
        self.wrong('house', 0, Trust, Trust(*CALM))

    def test_parts(self):
        for trust in TRUSTS:
            one = Trust(*trust)
            self.same(one.trust_now, trust)
            self.same(len(one), len(trust))
            self.same(list(one), [entry[0] for entry in trust])
            self.same([one[house] for house in one], [entry[1:] for entry in trust])
            self.same([(p, q) for p in one for q in one], [(p[0], q[0]) for p in trust for q in trust])

    def test_houses(self):
        one = Trust(*THREE)
        for value in ODD + ['d', 'ab', ['a'], 'bc', THREE[0], 'A']:
            good = type(value) is str and value in ('a', 'b', 'c')
            self.same(value in one, good)
            self.same(value not in one, not good)
            if not good:
                self.refused('house', lambda: one[value])
                self.refused('house', one.lotted, value, ('a',))
                self.refused('house', one.lotted, value, None)
                self.refused('house', one.fearing, value, None)
        self.same(one.trust_now, THREE)

    def test_equal(self):
        one = Trust(*THREE)
        self.same([one == Trust(*THREE), one != Trust(*THREE)], [True, False])
        for other in ODD + [THREE, Trust(*CALM), Trust(*FOUR), Trust(*THREE[:1] + CALM[1:]), Machine(*LAMP), list(THREE)]:
            self.same([one == other, one != other, other == one], [False, True, False])

    def test_changes(self):
        one = Trust(*THREE)
        for late, wanted in (
            (one.lotted('b', ('a', 'b', 'c')), with_lot(THREE, 'b', ('a', 'b', 'c'))),
            (one.lotted(lot=('c',), house='a'), with_lot(THREE, 'a', ('c',))),
            (one.fearing('b', ('a', 'c')), with_fear(THREE, 'b', ('a', 'c'))),
            (one.fearing(fear=(), house='c'), with_fear(THREE, 'c', ())),
            (one % (('a', 'z'),), renamed_trust(THREE, (('a', 'z'),))),
            (one % (('a', 'b'), ('b', 'a')), renamed_trust(THREE, (('a', 'b'), ('b', 'a')))),
            (one % (), THREE),
        ):
            self.assertIs(type(late), Trust)
            self.same(late.trust_now, wanted)
        self.same(one.trust_now, THREE)

    def test_changes_refused(self):
        one = Trust(*THREE)
        for value in ODD + [('d',), ['a'], 'ab', ('b', 'a'), (('a', 'b'),), (('a', 'x'), ('b', 'x')), one]:
            if not (type(value) is tuple and plain.is_set(value, lambda part: type(part) is str and part in 'abc')):
                self.refused('lot', one.lotted, 'a', value)
                self.refused('fear', one.fearing, 'a', value)
            if value != ():
                self.refused('names', lambda: one % value)
        self.refused('lot', one.lotted, 'a', ())
        self.refused('fear', one.fearing, 'a', ('a', 'b'))
        self.same(told(one.trust_now), told(THREE))

    def test_it_has_no_setter(self):
        with self.assertRaises(AttributeError):
            Trust(*CALM).trust_now = THREE
