"""Points 24 to 28: reaching and alikestates; point 32: papers on alike states."""

from itertools import product

from actasone.alikechecker import lets_alike
from actasone.alikepapers import alike_paper
from actasone.alikestates import (
    alike_classes, are_alike, folded, least_machine, parting_row, starts_alike,
)
from actasone.errors import InvalidPaper
from actasone.kinds import is_machine
from actasone.machinechanges import only_looks, renumbered
from actasone.reaching import reachable_states, row_to
from tests import plain
from tests.cases import Case
from tests.samples import DIAL, LAMP, ODD, PAST, ROUND, SPARE, TURN, WIDE, changes_of, large_machines, small_machines

SMALLS = [LAMP, DIAL, SPARE, ROUND, PAST, TURN] + list(small_machines())
LARGES = [WIDE] + list(large_machines())


def sets_of(things):
    return [tuple(thing for thing, kept in zip(things, row) if kept) for row in product((0, 1), repeat=len(things))]


def states_of(machine):
    return range(len(machine[2]))


class Reaching(Case):
    def test_example(self):
        self.same([reachable_states(SPARE), row_to(SPARE, 3), row_to(DIAL, 2)], [(0, 1, 2), None, ('up', 'up')])

    def test_all_rows(self):
        for machine in SMALLS:
            self.same(reachable_states(machine), plain.reachable(machine))
            for state in states_of(machine):
                self.same(row_to(machine, state), plain.row_to(machine, state))
                self.same(row_to(machine, state) is None, state not in reachable_states(machine))

    def test_large_ones(self):
        for machine in LARGES[:8]:
            self.same(reachable_states(machine), plain.reachable(machine))
            least = {}
            for row in plain.rows_up_to(machine, 5):
                least.setdefault(plain.made_of(machine, 0, row), row)
            for state in states_of(machine):
                self.same(row_to(machine, state), least.get(state))

    def test_the_start_and_others(self):
        self.same([row_to(WIDE, 0), row_to(WIDE, 3), row_to(WIDE, 5)], [(), None, ('west',)])
        self.same(reachable_states(WIDE), (0, 1, 2, 4, 5))
        self.same(reachable_states((('a', 'b'), ('k',), ((0, 0), (1, 0)), ((0,), (0,)))), (0,))


class Alike(Case):
    def test_examples(self):
        self.same([alike_classes(DIAL, ('high',)), alike_classes(SPARE, ('lit',))], [(0, 1, 2), (0, 1, 0, 3)])
        self.same([parting_row(DIAL, 0, 1, ('high',)), parting_row(SPARE, 0, 2, ('lit',))], [('up',), None])
        self.same(
            [least_machine(SPARE)[2:], folded(SPARE)[2:], starts_alike(SPARE, folded(SPARE))],
            [(((0, 1), (1, 0)), ((0,), (1,))), (((0, 1), (1, 0), (2, 2)), ((0,), (1,), (1,))), True],
        )

    def test_no_looks(self):
        for machine in SMALLS[:20] + LARGES[:3]:
            self.same(alike_classes(machine, ()), (0,) * len(machine[2]))
            for state, other in product(states_of(machine), repeat=2):
                self.same(are_alike(machine, state, other, ()), True)
                self.same(parting_row(machine, state, other, ()), None)

    def test_all_rows_and_pairs(self):
        for machine in SMALLS:
            for looks in sets_of(machine[1]):
                classes = alike_classes(machine, looks)
                for state, other in product(states_of(machine), repeat=2):
                    row = plain.parting_row(machine, state, other, looks)
                    self.same(parting_row(machine, state, other, looks), row)
                    self.same(are_alike(machine, state, other, looks), row is None)
                    self.same(classes[state] == classes[other], row is None)
                for state in states_of(machine):
                    least = min(s for s in states_of(machine) if plain.parting_row(machine, state, s, looks) is None)
                    self.same(classes[state], least)

    def test_large_ones(self):
        for machine in LARGES:
            for looks in sets_of(machine[1]):
                unlike = plain.unlike_pairs(machine, looks)
                classes = alike_classes(machine, looks)
                for state, other in product(states_of(machine), repeat=2):
                    self.same(are_alike(machine, state, other, looks), (state, other) not in unlike)
                    self.same(classes[state] == classes[other], (state, other) not in unlike)
                    row = parting_row(machine, state, other, looks)
                    self.same(row is None, (state, other) not in unlike)
                    if row:
                        one, two = plain.made_of(machine, state, row), plain.made_of(machine, other, row)
                        self.assertNotEqual(plain.answers(machine, one, looks), plain.answers(machine, two, looks))
                for state in states_of(machine):
                    self.same(classes[state], min(s for s in states_of(machine) if (s, state) not in unlike))

    def test_least_rows_of_large_ones(self):
        for machine in LARGES[:3]:
            looks = machine[1][:1]
            for state, other in ((0, 1), (2, 4), (5, 3)):
                self.same(parting_row(machine, state, other, looks), plain.parting_row(machine, state, other, looks))

    def test_a_long_way(self):
        many = 12
        moves = tuple((min(s + 1, many - 1), 0) for s in range(many))
        machine = (('a', 'b'), ('k',), moves, tuple((int(s == many - 1),) for s in range(many)))
        self.same(alike_classes(machine, ('k',)), tuple(range(many)))
        self.same(parting_row(machine, 0, 1, ('k',)), ('a',) * (many - 2))
        self.same(row_to(machine, many - 1), ('a',) * (many - 1))

    def test_great_answers_are_not_bools(self):
        machine = (('a', 'b'), ('k',), ((0, 0), (1, 1), (2, 2)), ((10 ** 59,), (10 ** 59 + 1,), (10 ** 59,)))
        self.same(alike_classes(machine, ('k',)), (0, 1, 0))


class LeastMachines(Case):
    def alike_starts(self, machine, other):
        """Over all rows that may be needed to come to a pair of states."""
        found, ahead = set(), [(0, 0)]
        while ahead:
            one, two = ahead.pop()
            if machine[3][one] != other[3][two]:
                return False
            if (one, two) not in found:
                found.add((one, two))
                ahead += zip(machine[2][one], other[2][two])
        return True

    def test_folded(self):
        for machine in SMALLS + LARGES:
            late = folded(machine)
            self.assertTrue(is_machine(late))
            classes = alike_classes(machine, machine[1])
            leasts = sorted(set(classes))
            self.same(late[:2], machine[:2])
            self.same(late[3], tuple(machine[3][state] for state in leasts))
            wanted = tuple(tuple(leasts.index(classes[led]) for led in machine[2][state]) for state in leasts)
            self.same(late[2], wanted)
            self.same(alike_classes(late, late[1]), tuple(range(len(leasts))))
            self.assertTrue(starts_alike(machine, late))

    def test_least(self):
        for machine in SMALLS + LARGES:
            late = least_machine(machine)
            self.assertTrue(is_machine(late))
            self.assertTrue(self.alike_starts(machine, late))
            self.same(late[:2], machine[:2])
            classes = alike_classes(machine, machine[1])
            self.same(len(late[2]), len({classes[state] for state in plain.reachable(machine)}))
            rows = [row_to(late, state) for state in states_of(late)]
            self.assertNotIn(None, rows)
            self.same(rows, sorted(rows, key=lambda row: (len(row), row)))
            self.same(least_machine(late), late)
            self.same(least_machine(folded(machine)), late)

    def test_numbers_ascend_by_rows(self):
        for machine in SMALLS[:20] + LARGES:
            order = (0,) + tuple(range(len(machine[2]) - 1, 0, -1))
            self.same(least_machine(renumbered(machine, order)), least_machine(machine))

    def test_starts_alike_if_least_machines_are_equal(self):
        alike = 0
        smalls = [machine for machine in SMALLS if machine[0] == ('down', 'left') and machine[1] == ('far',)]
        for one, two in product(smalls[:30] + [only_looks(machine, ('far',)) for machine in smalls[:5]], repeat=2):
            self.same(starts_alike(one, two), self.alike_starts(one, two))
            self.same(starts_alike(one, two), least_machine(one) == least_machine(two))
            alike += one != two and starts_alike(one, two)
        self.assertGreater(alike, 5)

    def test_starts(self):
        late = LAMP[:2] + (((0, 1), (0, 1), (2, 2)), ((0,), (1,), (5,)))
        self.same(starts_alike(LAMP, late), True)
        self.same(starts_alike(LAMP, renumbered(LAMP, (1, 0))), False)
        self.same(starts_alike(TURN, TURN), True)
        self.same(starts_alike(TURN, TURN[:2] + (((0, 1), (0, 0)),) + TURN[3:]), False)


class Papers(Case):
    def test_papers_are_let(self):
        for machine in SMALLS + LARGES[:10]:
            for looks in sets_of(machine[1]):
                for state, other in product(states_of(machine), repeat=2):
                    paper = alike_paper(machine, state, other, looks)
                    alike = are_alike(machine, state, other, looks)
                    self.same(paper[0], 'alike' if alike else 'unlike')
                    self.same((type(paper), len(paper), type(paper[1])), (tuple, 2, tuple))
                    self.same(lets_alike(machine, state, other, looks, paper), alike)

    def test_example(self):
        self.wrong('letter', (3, 1), lets_alike, SPARE, 1, 3, ('lit',), ('alike', (0, 1, 0, 1)))

    def test_other_papers_that_are_let(self):
        self.same(lets_alike(SPARE, 0, 2, ('lit',), ('alike', (7, 10 ** 59, 7, 3))), True)
        self.same(lets_alike(SPARE, 1, 1, ('lit',), ('alike', (4, 3, 2, 1))), True)
        self.same(lets_alike(SPARE, 1, 3, ('lit',), ('unlike', ('turn', 'hold', 'hold'))), False)
        self.same(lets_alike(SPARE, 1, 3, (), ('alike', (5, 5, 5, 5))), True)
        self.same(lets_alike(DIAL, 0, 2, ('high', 'low'), ('unlike', ())), False)
        self.same(lets_alike(DIAL, 1, 2, ('high',), ('unlike', ())), False)
        self.same(lets_alike(machine=LAMP, state=0, other=1, looks=('lit',), thing=('unlike', ())), False)

    def test_shape(self):
        for thing in ODD + [
            ('alike',), ('alike', (0, 1, 0, 1), ()), ['alike', (0, 1, 0, 1)], ('alike', [0, 1, 0, 1]), ('Alike', (0, 1, 0, 1)),
            ('unlike', ['turn']), ('unlike', 'turn'), ('unlike', None), ('same', ()), (True, ()), (None, ()), (('alike',), ()),
            (['alike'], (0, 1, 0, 1)), ('', ()), ('alike', None),
        ]:
            self.wrong('shape', -1, lets_alike, SPARE, 1, 3, ('lit',), thing)

    def test_numbers(self):
        for numbers in (
            (), (0, 1, 0), (0, 1, 0, 1, 0), (0, True, 0, 1), (0, 1, 0, -1), (0, 1, 0, None), (0, 1, [0], 1), (False, 1, 2, 3),
            ('0', '1', '0', '1'), ((0,), 1, 0, 1), ('turn',),
        ):
            self.wrong('numbers', -1, lets_alike, SPARE, 1, 3, ('lit',), ('alike', numbers))
            self.wrong('numbers', -1, lets_alike, SPARE, 1, 1, (), ('alike', numbers))

    def test_answers(self):
        self.wrong('answers', 1, lets_alike, SPARE, 1, 3, ('lit',), ('alike', (0, 0, 0, 0)))
        self.wrong('answers', 3, lets_alike, SPARE, 0, 2, ('lit',), ('alike', (0, 1, 0, 0)))
        self.wrong('answers', 2, lets_alike, SPARE, 1, 2, ('lit',), ('alike', (0, 1, 1, 1)))
        self.wrong('answers', 2, lets_alike, DIAL, 0, 1, ('high',), ('alike', (0, 1, 1)))
        self.wrong('letter', (2, 0), lets_alike, DIAL, 0, 1, ('low',), ('alike', (0, 1, 1)))

    def test_letters(self):
        self.same(lets_alike(SPARE, 0, 2, ('lit',), ('alike', (0, 1, 0, 3))), True)
        self.wrong('letter', (1, 1), lets_alike, DIAL, 0, 1, (), ('alike', (0, 0, 1)))
        self.wrong('letter', (2, 0), lets_alike, DIAL, 1, 2, (), ('alike', (0, 1, 1)))
        ring = (('a', 'b'), ('k',), ((1, 0), (2, 1), (2, 2), (1, 2)), ((0,),) * 4)
        self.wrong('letter', (3, 1), lets_alike, ring, 0, 3, ('k',), ('alike', (0, 1, 2, 0)))
        self.wrong('letter', (2, 0), lets_alike, ring, 0, 2, ('k',), ('alike', (0, 1, 0, 0)))

    def test_one_state_ahead_of_the_next(self):
        machine = (('a', 'b'), ('k',), ((0, 1), (1, 1), (2, 2)), ((0,), (0,), (1,)))
        self.wrong('answers', 2, lets_alike, machine, 0, 0, ('k',), ('alike', (0, 0, 0)))
        machine = (('a', 'b'), ('k',), ((0, 2), (1, 1), (2, 2)), ((0,), (0,), (1,)))
        self.wrong('letter', (1, 1), lets_alike, machine, 0, 0, ('k',), ('alike', (0, 0, 1)))
        self.wrong('answers', 2, lets_alike, machine, 0, 0, ('k',), ('alike', (0, 1, 0)))
        machine = (('a', 'b'), ('k',), ((0, 2), (1, 1), (2, 2), (3, 3)), ((0,), (0,), (1,), (2,)))
        self.wrong('letter', (1, 1), lets_alike, machine, 0, 0, ('k',), ('alike', (0, 0, 1, 1)))
        self.wrong('letter', (1, 1), lets_alike, machine, 0, 3, ('k',), ('alike', (0, 0, 1, 2)))

    def test_apart(self):
        self.wrong('apart', -1, lets_alike, SPARE, 1, 3, ('lit',), ('alike', (0, 1, 0, 3)))
        self.wrong('apart', -1, lets_alike, SPARE, 0, 2, ('lit',), ('alike', (0, 1, 2, 3)))
        self.wrong('letter', (2, 0), lets_alike, DIAL, 0, 1, (), ('alike', (0, 1, 1)))

    def test_rows(self):
        for row in ((1,), ('turn', 'up'), (None,), (['turn'],), ('turn', True), (('turn',),), ('',), ('lit',)):
            self.wrong('row', -1, lets_alike, SPARE, 1, 3, ('lit',), ('unlike', row))
            self.wrong('row', -1, lets_alike, SPARE, 1, 1, (), ('unlike', row))

    def test_same(self):
        self.wrong('same', -1, lets_alike, SPARE, 1, 3, ('lit',), ('unlike', ()))
        self.wrong('same', -1, lets_alike, SPARE, 1, 3, ('lit',), ('unlike', ('hold',)))
        self.wrong('same', -1, lets_alike, SPARE, 1, 3, (), ('unlike', ('turn',)))
        self.wrong('same', -1, lets_alike, DIAL, 0, 1, ('high',), ('unlike', ()))
        self.same(lets_alike(DIAL, 0, 1, ('low',), ('unlike', ())), False)

    def test_one_place_changed(self):
        for machine, state, other in ((SPARE, 0, 2), (SPARE, 1, 3), (DIAL, 0, 0), (DIAL, 1, 2), (TURN, 0, 1)):
            looks = machine[1]
            paper = alike_paper(machine, state, other, looks)
            for late in changes_of(paper):
                with self.subTest(late=late):
                    try:
                        let = lets_alike(machine, state, other, looks, late)
                    except InvalidPaper as error:
                        self.assertFalse(self.is_right(machine, state, other, looks, late))
                        self.assertIn(error.word, ('shape', 'numbers', 'answers', 'letter', 'apart', 'row', 'same'))
                    else:
                        self.assertTrue(self.is_right(machine, state, other, looks, late))
                        self.same(let, late[0] == 'alike')
                        self.same(let, are_alike(machine, state, other, looks))

    def is_right(self, machine, state, other, looks, paper):
        if not plain.is_tuple(paper, 2) or type(paper[0]) is not str or type(paper[1]) is not tuple:
            return False
        if paper[0] == 'unlike':
            if not all(type(letter) is str and letter in machine[0] for letter in paper[1]):
                return False
            one, two = (plain.made_of(machine, k, paper[1]) for k in (state, other))
            return plain.answers(machine, one, looks) != plain.answers(machine, two, looks)
        numbers = paper[1]
        if paper[0] != 'alike' or len(numbers) != len(machine[2]) or not all(map(plain.is_number, numbers)):
            return False
        for one, two in product(states_of(machine), repeat=2):
            if numbers[one] == numbers[two]:
                if plain.answers(machine, one, looks) != plain.answers(machine, two, looks):
                    return False
                if any(numbers[p] != numbers[q] for p, q in zip(machine[2][one], machine[2][two])):
                    return False
        return numbers[state] == numbers[other]

    def test_all_numbers(self):
        """The first error of all papers of numbers, told by going through them as the point does."""
        for machine in SMALLS[:40]:
            looks = machine[1]
            many = len(machine[2])
            if many > 3:
                continue
            for numbers in product(range(many), repeat=many):
                wanted = self.first_error(machine, numbers, looks)
                for state, other in product(range(many), repeat=2):
                    thing = ('alike', numbers)
                    if wanted is not None:
                        self.wrong(*wanted, lets_alike, machine, state, other, looks, thing)
                    elif numbers[state] != numbers[other]:
                        self.wrong('apart', -1, lets_alike, machine, state, other, looks, thing)
                    else:
                        self.same(lets_alike(machine, state, other, looks, thing), True)

    def first_error(self, machine, numbers, looks):
        for k in states_of(machine):
            for low in range(k):
                if numbers[low] == numbers[k] and plain.answers(machine, low, looks) != plain.answers(machine, k, looks):
                    return ('answers', k)
            for i in range(len(machine[0])):
                for low in range(k):
                    if numbers[low] == numbers[k] and numbers[machine[2][low][i]] != numbers[machine[2][k][i]]:
                        return ('letter', (k, i))
        return None
