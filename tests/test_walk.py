"""Point 33: walks."""

from random import Random

from actasone.errors import NothingToUndo
from actasone.machineclasses import Machine
from actasone.machineparts import answer_of, made_of
from actasone.walkclasses import Walk
from tests import plain
from tests.cases import Case
from tests.samples import DIAL, LAMP, ODD, SPARE, WIDE, large_machines, small_machines


class Walks(Case):
    def stands(self, walk, machine, begin, row):
        """All that a walk tells, which has to be as for this row from this begin."""
        states = [plain.made_of(machine, begin, row[:k]) for k in range(len(row) + 1)]
        words = [str(begin)] + [f'{letter} {state}' for letter, state in zip(row, states[1:])]
        self.same(walk.machine_now, machine)
        self.same([walk.state_now, walk.row_now, len(walk)], [states[-1], row, len(row)])
        self.same([list(walk), str(walk)], [states, ' '.join(words)])
        self.same([(p, q) for p in walk for q in walk], [(p, q) for p in states for q in states])
        self.same([state in walk for state in range(len(machine[2]))], [s in states for s in range(len(machine[2]))])
        self.same([walk[look] for look in machine[1]], [answer_of(machine, states[-1], look) for look in machine[1]])
        for late in plain.rows_up_to(machine, 2):
            self.same(walk(late), made_of(machine, states[-1], late))
        self.same([walk == Walk(machine, begin, row), walk != Walk(machine, begin, row)], [True, False])

    def test_example(self):
        walk = Walk(DIAL, 1, ('up',))
        self.same(
            [walk.take('up'), walk.take('down'), walk['high'], str(walk), 0 in walk, walk.back(), list(walk)],
            [2, 1, 0, '1 up 2 up 2 down 1', False, 'down', [1, 2, 2]],
        )

    def test_begins(self):
        self.stands(Walk(DIAL), DIAL, 0, ())
        self.stands(Walk(DIAL, 2), DIAL, 2, ())
        self.stands(Walk(DIAL, 1, ('up', 'down')), DIAL, 1, ('up', 'down'))
        self.stands(Walk(machine=DIAL, row=('up',)), DIAL, 0, ('up',))
        self.stands(Walk(row=('up',), state=1, machine=DIAL), DIAL, 1, ('up',))

    def test_by_turns(self):
        random = Random(11)
        for machine in [LAMP, DIAL, SPARE, WIDE] + list(small_machines(20)) + list(large_machines(5)):
            begin = random.randrange(len(machine[2]))
            row = tuple(random.choice(machine[0]) for _ in range(random.randint(0, 3)))
            walk = Walk(machine, begin, row)
            for _ in range(25):
                self.stands(walk, machine, begin, row)
                letter = random.choice(machine[0])
                turn = random.randrange(4)
                if turn == 0:
                    self.same(walk.take(letter), made_of(machine, begin, row + (letter,)))
                    row += (letter,)
                elif turn == 1:
                    held = walk
                    walk += letter
                    self.assertIs(walk, held)
                    row += (letter,)
                elif row:
                    self.same(walk.back(), row[-1])
                    row = row[:-1]
                else:
                    self.raised(NothingToUndo, {'steps': 0}, walk.back)

    def test_back_to_the_first_and_once_more(self):
        walk = Walk(DIAL, 1, ('up', 'down'))
        walk += 'up'
        self.same(walk.take(letter='down'), 1)
        self.same([walk.back(), walk.back(), walk.back(), walk.back()], ['down', 'up', 'down', 'up'])
        for _ in range(3):
            self.raised(NothingToUndo, {'steps': 0}, walk.back)
            self.stands(walk, DIAL, 1, ())
        self.same(walk.take('up'), 2)
        self.stands(walk, DIAL, 1, ('up',))

    def test_plus_and_call_leave_it(self):
        walk = Walk(DIAL, 1, ('up',))
        walk += 'up'
        late = walk + ('down', 'down')
        self.assertIs(type(late), Walk)
        self.stands(late, DIAL, 1, ('up', 'up', 'down', 'down'))
        self.stands(walk, DIAL, 1, ('up', 'up'))
        self.same([walk(('down', 'down')), walk(()), walk(row=('down',))], [0, 2, 1])
        self.stands(walk, DIAL, 1, ('up', 'up'))
        same = walk + ()
        self.assertIsNot(same, walk)
        self.same(same.take('down'), 1)
        self.stands(walk, DIAL, 1, ('up', 'up'))
        self.same([late.back() for _ in range(4)], ['down', 'down', 'up', 'up'])

    def test_two_walks_of_one_machine(self):
        one, two = Walk(DIAL), Walk(DIAL)
        one += 'up'
        self.stands(one, DIAL, 0, ('up',))
        self.stands(two, DIAL, 0, ())

    def test_wrong_values(self):
        walk = Walk(DIAL, 1, ('up',))

        def add(value):
            held = walk
            held += value

        for value in ODD + ['up ', 'Up', 'high', ['up'], ('up',), ('up', 'high'), ['up', 'down'], walk, Walk(DIAL)]:
            if not (type(value) is str and value in DIAL[0]):
                self.refused('letter', walk.take, value)
                self.refused('letter', add, value)
            if not (type(value) is tuple and all(type(part) is str and part in DIAL[0] for part in value)):
                self.refused('row', lambda: walk + value)
                self.refused('row', walk, value)
                self.refused('row', Walk, DIAL, 0, value)
            if not (type(value) is str and value in DIAL[1]):
                self.refused('look', lambda: walk[value])
            self.same(value in walk, type(value) is int and value in (1, 2))
            self.same(value not in walk, not (type(value) is int and value in (1, 2)))
        self.stands(walk, DIAL, 1, ('up',))

    def test_equal(self):
        walk = Walk(SPARE, 1, ('turn',))
        self.same(walk == Walk(SPARE, 1) + ('turn',), True)
        for other in ODD + [
            Walk(SPARE), Walk(SPARE, 1), Walk(SPARE, 1, ('hold',)), Walk(SPARE, 3, ('turn',)), Walk(LAMP), SPARE, str(walk),
            Walk(SPARE, 1, ('turn', 'turn')), Machine(*SPARE), list(walk), (SPARE, 1, ('turn',)),
            Walk(SPARE[:3] + (((0,), (1,), (0,), (2,)),), 1, ('turn',)),
        ]:
            self.same([walk == other, walk != other, other == walk], [False, True, False])
        self.same(Walk(SPARE, 0, ('hold',)) == Walk(SPARE, 0, ('hold', )), True)
        late = Walk(SPARE, 1, ('turn', 'turn'))
        late.back()
        self.same(late == walk, True)

    def test_the_same_states_by_other_letters_are_not_equal(self):
        machine = (('a', 'b'), ('k',), ((1, 1), (0, 0)), ((0,), (1,)))
        self.same(Walk(machine, 0, ('a',)) == Walk(machine, 0, ('b',)), False)

    def test_a_long_walk(self):
        walk = Walk(LAMP, 0, ('on', 'off') * 500)
        self.same([len(walk), walk.state_now, len(list(walk)), walk(('on',))], [1000, 0, 1001, 1])

    def test_properties_have_no_setters(self):
        walk = Walk(LAMP)
        for name in ('machine_now', 'state_now', 'row_now'):
            with self.assertRaises(AttributeError):
                setattr(walk, name, ())
