"""Points 3, 17, 18: machineparts and machinechanges."""

from random import Random

from actasone.kinds import is_machine
from actasone.machinechanges import only_looks, renamed_machine, renumbered, side_by_side
from actasone.machineparts import answer_of, made_of, next_state
from tests import plain
from tests.cases import Case
from tests.samples import DIAL, LAMP, ROUND, SPARE, WIDE, large_machines, machine_by_turns, small_machines

MACHINES = [LAMP, DIAL, SPARE, ROUND, WIDE] + list(small_machines(30)) + list(large_machines(5))


class Parts(Case):
    def test_next_state(self):
        self.same([next_state(LAMP, 0, 'on'), next_state(LAMP, 1, 'on'), next_state(LAMP, 1, 'off')], [1, 1, 0])
        for machine in MACHINES:
            for state, row in enumerate(machine[2]):
                self.same([next_state(machine, state, letter) for letter in machine[0]], list(row))

    def test_answer_of(self):
        for machine in MACHINES:
            for state, row in enumerate(machine[3]):
                self.same([answer_of(machine, state, look) for look in machine[1]], list(row))

    def test_made_of(self):
        self.same(made_of(DIAL, 2, ()), 2)
        self.same(made_of(DIAL, 0, ('up', 'up', 'up', 'down')), 1)
        self.same(made_of(LAMP, 0, ('on', 'off') * 500 + ('on',)), 1)
        for machine in MACHINES[:20]:
            for row in plain.rows_up_to(machine, 3):
                for state in range(len(machine[2])):
                    self.same(made_of(machine, state, row), plain.made_of(machine, state, row))


class OnlyLooks(Case):
    def test_each_set(self):
        self.same(only_looks(DIAL, ('low',)), (DIAL[0], ('low',), DIAL[2], ((1,), (0,), (0,))))
        self.same(only_looks(DIAL, ('high', 'low')), DIAL)
        self.same(only_looks(WIDE, ('far', 'sun'))[3], tuple((row[0], row[2]) for row in WIDE[3]))

    def test_what_remains_answers_as_ahead(self):
        for machine in MACHINES:
            for look in machine[1]:
                late = only_looks(machine, (look,))
                self.assertTrue(is_machine(late))
                self.same((late[0], late[1], late[2]), (machine[0], (look,), machine[2]))
                for state in range(len(machine[2])):
                    self.same(answer_of(late, state, look), answer_of(machine, state, look))


class Renumbered(Case):
    def test_example(self):
        self.same(renumbered(LAMP, (1, 0))[2:], (((1, 0), (1, 0)), ((1,), (0,))))

    def test_three_states(self):
        self.same(
            renumbered(DIAL, (2, 0, 1)),
            (DIAL[0], DIAL[1], ((2, 0), (1, 2), (1, 0)), ((1, 0), (0, 1), (0, 0))),
        )

    def test_new_states_are_the_old_ones(self):
        random = Random(4)
        for machine in MACHINES:
            states = tuple(random.sample(range(len(machine[2])), len(machine[2])))
            late = renumbered(machine, states)
            self.assertTrue(is_machine(late))
            self.same(late[:2], machine[:2])
            for k, old in enumerate(states):
                self.same(late[3][k], machine[3][old])
                self.same([states[led] for led in late[2][k]], list(machine[2][old]))
            self.same(renumbered(machine, tuple(range(len(states)))), machine)


class Renamed(Case):
    def test_letters_and_looks_ascend_anew(self):
        late = renamed_machine(DIAL, ('z', 'a'), ('right', 'left'))
        wanted = (('a', 'z'), ('left', 'right'), ((1, 0), (2, 0), (2, 1)), ((1, 0), (0, 0), (0, 1)))
        self.same(late, wanted)
        self.same(renamed_machine(DIAL, DIAL[0], DIAL[1]), DIAL)
        self.same(renamed_machine(DIAL, ('up', 'down'), DIAL[1])[2], ((1, 0), (2, 0), (2, 1)))

    def test_each_name_does_what_it_did(self):
        random = Random(6)
        names = ['x', 'y', 'far', 'near', 'up', 'anyone', 'abcdefgh', 'down']
        for machine in MACHINES:
            letters = tuple(random.sample(names, len(machine[0])))
            looks = tuple(random.sample(names, len(machine[1])))
            late = renamed_machine(machine, letters, looks)
            self.assertTrue(is_machine(late))
            self.same((late[0], late[1]), (tuple(sorted(letters)), tuple(sorted(looks))))
            for state in range(len(machine[2])):
                for old, new in zip(machine[0], letters):
                    self.same(next_state(late, state, new), next_state(machine, state, old))
                for old, new in zip(machine[1], looks):
                    self.same(answer_of(late, state, new), answer_of(machine, state, old))


class SideBySide(Case):
    def test_looks_ascend(self):
        other = (('off', 'on'), ('hot', 'mild'), ((0, 2), (1, 1), (2, 0)), ((5, 6), (7, 8), (9, 4)))
        late = side_by_side(LAMP, other)
        self.same(late[1], ('hot', 'lit', 'mild'))
        self.same(late[2], ((0, 5), (1, 4), (2, 3), (0, 5), (1, 4), (2, 3)))
        self.same(late[3], ((5, 0, 6), (7, 0, 8), (9, 0, 4), (5, 1, 6), (7, 1, 8), (9, 1, 4)))
        back = side_by_side(other, LAMP)
        self.same(back[2], ((0, 5), (0, 5), (2, 3), (2, 3), (4, 1), (4, 1)))
        self.same(back[3][3], (7, 1, 8))

    def test_both_go_on(self):
        random = Random(8)
        for k in range(40):
            one = machine_by_turns(random, 1 + k % 5, 2 + k % 3, 1 + k % 2)
            two = machine_by_turns(random, 1 + k % 4, 2 + k % 3, 1 + k % 3)
            two = (two[0], ('aside', 'level', 'odd')[: len(two[1])]) + two[2:]
            late = side_by_side(one, two)
            self.assertTrue(is_machine(late))
            many = len(two[2])
            self.same(len(late[2]), len(one[2]) * many)
            self.same((late[0], late[1]), (one[0], tuple(sorted(one[1] + two[1]))))
            for row in plain.rows_up_to(one, 2):
                for state in range(len(late[2])):
                    s, t = divmod(state, many)
                    led = made_of(late, state, row)
                    self.same(led, made_of(one, s, row) * many + made_of(two, t, row))
                    for look in late[1]:
                        part, at = (one, s) if look in one[1] else (two, t)
                        self.same(answer_of(late, state, look), answer_of(part, at, look))

    def test_a_thousand_states(self):
        random = Random(1)
        one = machine_by_turns(random, 40)
        two = (one[0], ('aside',)) + machine_by_turns(random, 25)[2:]
        self.assertTrue(is_machine(side_by_side(one, two)))
        self.same(len(side_by_side(one, two)[2]), 1000)
