"""Points 10, 29, 30: looks that move."""

from itertools import product

from actasone.alikestates import folded
from actasone.moving import is_moving, least_look_age, moves_past, moving_walk
from actasone.reaching import reachable_states
from tests import plain
from tests.cases import Case
from tests.samples import (
    DIAL, DIGITS60, LAMP, ODD, PAST, ROUND, SPARE, TURN, WIDE, changes_of, large_machines, small_machines,
)

SMALLS = [LAMP, DIAL, SPARE, ROUND, PAST, TURN] + list(small_machines(100))
LARGES = [WIDE] + list(large_machines())


def chain(many, back=0):
    """From the start through states with another answer to the last one, which leads back."""
    moves = tuple((s + 1, s + 1) for s in range(many)) + ((back, back),)
    return (('a', 'b'), ('k',), moves, ((0,),) + ((1,),) * many)


def is_walk(machine, look, age, thing):
    """The definition, place by place."""
    if type(thing) is not tuple or len(thing) != 2:
        return False
    for row in thing:
        if type(row) is not tuple or not all(type(letter) is str and letter in machine[0] for letter in row):
            return False
    ahead, row = thing
    if len(row) < age + 1:
        return False
    begin = plain.made_of(machine, 0, ahead)
    lasts = [plain.made_of(machine, begin, row[: len(row) - k]) for k in range(age + 1)]
    return all(plain.answers(machine, late, (look,)) != plain.answers(machine, begin, (look,)) for late in lasts)


class Moving(Case):
    def test_example(self):
        self.same([moves_past(LAMP, 'lit', 6), least_look_age(ROUND, 'day'), least_look_age(ROUND, 'hour')], [True, 0, 2])

    def test_all_rows(self):
        for machine in SMALLS:
            for look in machine[1]:
                least = least_look_age(machine, look)
                for age in range(5):
                    wanted = plain.moves_past(machine, look, age)
                    self.same(moves_past(machine, look, age), wanted)
                    self.same(wanted, least is None or age < least)

    def test_does_not_move_if_all_answers_are_the_same(self):
        for machine in SMALLS + LARGES:
            for look in machine[1]:
                answers = {plain.answers(machine, state, (look,))[0] for state in reachable_states(machine)}
                self.same(moves_past(machine, look, 0), len(answers) > 1)
                self.same(least_look_age(machine, look) == 0, len(answers) == 1)

    def test_least_age_is_less_than_how_many_are_reachable(self):
        for machine in SMALLS + LARGES:
            for look in machine[1]:
                least = least_look_age(machine, look)
                if least is not None:
                    self.assertLess(least, len(reachable_states(machine)))
                    self.same(moves_past(machine, look, least), False)
                for age in (0, 1, 5, 6, 8, 300, DIGITS60):
                    self.same(moves_past(machine, look, age), least is None or age < least)

    def test_long_chains(self):
        for many in (1, 2, 5, 6, 40):
            self.same(least_look_age(chain(many), 'k'), many)
            self.same(moves_past(chain(many), 'k', many - 1), True)
            self.same(moves_past(chain(many), 'k', many), False)
            self.same(moves_past(chain(many), 'k', DIGITS60), False)
            self.same(least_look_age(chain(many, many), 'k'), None)
            self.same(moves_past(chain(many, many), 'k', DIGITS60), True)
            self.same(moves_past(chain(many, many), 'k', 400), True)

    def test_what_is_not_reachable_does_not_move(self):
        machine = (('a', 'b'), ('k',), ((0, 0), (2, 2), (1, 1)), ((0,), (0,), (1,)))
        self.same([least_look_age(machine, 'k'), moves_past(machine, 'k', 0), moving_walk(machine, 'k', 0)], [0, False, None])

    def test_moved_behind_the_start_alone(self):
        """The look moves from a state that a row comes to; a ring of it leads back in time."""
        machine = (('a', 'b'), ('k',), ((1, 1), (2, 1), (1, 1)), ((0,), (0,), (1,)))
        self.same([least_look_age(machine, 'k'), moves_past(machine, 'k', 0)], [None, True])
        machine = (('a', 'b'), ('k',), ((1, 1), (2, 2), (1, 1)), ((5,), (0,), (1,)))
        self.same(least_look_age(machine, 'k'), None)
        machine = (('a', 'b'), ('k',), ((1, 1), (2, 2), (0, 0)), ((5,), (0,), (1,)))
        self.same(least_look_age(machine, 'k'), 2)

    def test_folded_moves_as_the_machine(self):
        for machine in SMALLS + LARGES:
            for look in machine[1]:
                self.same(least_look_age(folded(machine), look), least_look_age(machine, look))


class Walks(Case):
    def test_walks(self):
        for machine in SMALLS + LARGES:
            for look in machine[1]:
                for age in (0, 1, 2, 3, 8):
                    walk = moving_walk(machine, look, age)
                    self.same(walk is None, not moves_past(machine, look, age))
                    if walk is not None:
                        self.assertTrue(is_walk(machine, look, age, walk))
                        self.same(is_moving(machine, look, age, walk), True)
                        self.same((type(walk), type(walk[0]), type(walk[1])), (tuple, tuple, tuple))

    def test_none_where_there_is_none(self):
        self.same(moving_walk(ROUND, 'hour', 2), None)
        self.same(moving_walk(ROUND, 'day', 0), None)
        self.assertTrue(is_walk(ROUND, 'hour', 1, moving_walk(ROUND, 'hour', 1)))
        self.same(moving_walk(chain(4), 'k', 4), None)
        self.same(moving_walk(chain(4), 'k', 300), None)
        self.assertTrue(is_walk(chain(4, 4), 'k', 300, moving_walk(chain(4, 4), 'k', 300)))

    def test_all_small_walks(self):
        for machine in SMALLS[:25]:
            rows = plain.rows_up_to(machine, 3)
            for look in machine[1]:
                for age in (0, 1, 2):
                    for thing in product(rows[:7], rows):
                        self.same(is_moving(machine, look, age, thing), is_walk(machine, look, age, thing))

    def test_known_ones(self):
        self.same(is_moving(LAMP, 'lit', 0, ((), ('on',))), True)
        self.same(is_moving(LAMP, 'lit', 0, (('on',), ('on',))), False)
        self.same(is_moving(LAMP, 'lit', 0, (('on',), ('on', 'off'))), True)
        self.same(is_moving(LAMP, 'lit', 0, ((), ())), False)
        self.same(is_moving(LAMP, 'lit', 1, ((), ('on',))), False)
        self.same(is_moving(LAMP, 'lit', 1, ((), ('off', 'on'))), False)
        self.same(is_moving(LAMP, 'lit', 1, ((), ('on', 'on'))), True)
        self.same(is_moving(LAMP, 'lit', 1, ((), ('off', 'on', 'on'))), True)
        self.same(is_moving(LAMP, 'lit', 8, ((), ('on',) * 9)), True)
        self.same(is_moving(LAMP, 'lit', 8, ((), ('on',) * 8)), False)
        self.same(is_moving(LAMP, 'lit', 300, (('on', 'off'), ('on',) * 301)), True)
        self.same(is_moving(LAMP, 'lit', 300, (('on', 'off'), ('on',) * 300)), False)
        self.same(is_moving(machine=LAMP, look='lit', age=0, thing=((), ('on',))), True)

    def test_values_of_all_kinds(self):
        for thing in ODD + [((),), ((), ('on',), ()), [(), ('on',)], ((), ['on']), ([], ('on',)), ((), 'on'), (('on'), ('off',))]:
            for age in (0, 1):
                self.same(is_moving(LAMP, 'lit', age, thing), is_walk(LAMP, 'lit', age, thing))

    def test_one_place_changed(self):
        for machine in (LAMP, DIAL, ROUND, WIDE):
            look = machine[1][-2:][0]
            for age in (0, 1, 2):
                walk = moving_walk(machine, look, age)
                for late in changes_of(walk if walk is not None else ((), machine[0])):
                    self.same((late, is_moving(machine, look, age, late)), (late, is_walk(machine, look, age, late)))
        for late in changes_of((('on', 'off'), ('off', 'on', 'on'))):
            for age in (0, 1, 2):
                self.same((late, is_moving(LAMP, 'lit', age, late)), (late, is_walk(LAMP, 'lit', age, late)))
