"""Point 31: how many letters make all states alike."""

from itertools import product

from actasone.alikestates import alike_classes, folded
from actasone.counting import partings_of, right_many, settles, unlike_walk
from tests import plain
from tests.cases import Case
from tests.samples import DIAL, DIGITS60, LAMP, PAST, ROUND, SPARE, TURN, WIDE, large_machines, small_machines
from tests.test_alike import sets_of, states_of

SMALLS = [LAMP, DIAL, SPARE, ROUND, PAST, TURN] + list(small_machines(100))
LARGES = [WIDE] + list(large_machines(25))


def memory(many):
    """A machine whose answer is the letter that came so many letters ago."""
    states = list(product((0, 1), repeat=many))
    moves = tuple(tuple(states.index(state[1:] + (k,)) for k in (0, 1)) for state in states)
    return (('a', 'b'), ('k',), moves, tuple((state[0],) for state in states))


class Counting(Case):
    def test_example(self):
        self.same([right_many(LAMP, ('lit',)), right_many(DIAL, ('low',)), right_many(PAST, ('new', 'old'))], [1, None, 2])
        self.same(
            [partings_of(PAST, ('old',), 2), settles(PAST, ('old',), 1)],
            [((0, 1, 2, 3), (0, 1, 0, 1), (0, 0, 0, 0)), False],
        )

    def test_all_rows(self):
        for machine in SMALLS:
            for looks in sets_of(machine[1]):
                told = [plain.settles(machine, looks, many) for many in range(5)]
                self.same([settles(machine, looks, many) for many in range(5)], told)
                partings = partings_of(machine, looks, 4)
                self.same(partings, tuple(plain.parting(machine, looks, many) for many in range(5)))
                right = right_many(machine, looks)
                if right is None:
                    self.assertNotIn(True, told)
                else:
                    self.same(right, 1 + told[1:].index(True))

    def test_large_ones(self):
        for machine in LARGES:
            for looks in (machine[1], machine[1][:1], ()):
                for many in (0, 1, 2, 3):
                    self.same(settles(machine, looks, many), plain.settles(machine, looks, many))
                    self.same(partings_of(machine, looks, many)[-1], plain.parting(machine, looks, many))

    def test_memory(self):
        for many in (1, 2, 3, 5):
            machine = memory(many)
            self.same(right_many(machine, ('k',)), many)
            for k in range(many + 3):
                self.same(settles(machine, ('k',), k), k >= many)
                walk = unlike_walk(machine, ('k',), k)
                self.same(walk is None, k >= many)
            for k in (300, DIGITS60):
                self.same(settles(machine, ('k',), k), True)
                self.same(unlike_walk(machine, ('k',), k), None)

    def test_no_number_of_letters(self):
        for many in (0, 1, 8, 300, DIGITS60):
            self.same(settles(TURN, ('lit',), many), False)
            self.same(settles(TURN, (), many), True)
        self.same([right_many(TURN, ('lit',)), right_many(TURN, ())], [None, 1])
        self.same(partings_of(TURN, ('lit',), 8), ((0, 1),) * 9)
        self.same(partings_of(TURN, (), 1), ((0, 0), (0, 0)))
        self.same(partings_of(LAMP, ('lit',), 0), ((0, 1),))

    def test_no_letters(self):
        self.same([settles(LAMP, ('lit',), 0), settles(LAMP, (), 0), settles(ROUND, ('day',), 0)], [False, True, True])
        self.same(right_many(ROUND, ('day',)), 1)
        self.same(right_many((('a', 'b'), ('k',), ((0, 0),), ((3,),)), ('k',)), 1)

    def test_states_that_nothing_leads_to_count(self):
        machine = (('a', 'b'), ('k',), ((0, 0), (1, 1)), ((0,), (1,)))
        self.same([right_many(machine, ('k',)), settles(machine, ('k',), 8)], [None, False])
        self.same(right_many(SPARE, ('lit',)), None)

    def test_how_great(self):
        """It is 1, or less than the number of classes; the folded machine settles likewise."""
        for machine in SMALLS + LARGES:
            for looks in sets_of(machine[1]):
                right = right_many(machine, looks)
                classes = len(set(alike_classes(machine, looks)))
                if right is not None:
                    self.assertTrue(right == 1 or right < classes)
                    self.same(settles(machine, looks, right), True)
                    self.same(right == 1 or not settles(machine, looks, right - 1), True)
                for many in (0, 1, 2, 8, 100):
                    self.same(settles(machine, looks, many), many >= right if right and many else
                              (classes == 1 if many == 0 else False))
            self.same(right_many(folded(machine), machine[1]), right_many(machine, machine[1]))

    def test_partings_are_classes_at_first(self):
        for machine in SMALLS + LARGES:
            for looks in sets_of(machine[1]):
                partings = partings_of(machine, looks, 8)
                self.same((type(partings), len(partings)), (tuple, 9))
                self.same(partings[0], alike_classes(machine, looks))
                for many, parting in enumerate(partings):
                    self.same(set(parting) == {0}, settles(machine, looks, many))


class Unlike(Case):
    def test_walks(self):
        found = 0
        for machine in SMALLS + LARGES:
            for looks in sets_of(machine[1]):
                for many in (0, 1, 2, 3, 8):
                    walk = unlike_walk(machine, looks, many)
                    self.same(walk is None, settles(machine, looks, many))
                    if walk is not None:
                        found += 1
                        self.check(machine, looks, many, walk)
        self.assertGreater(found, 300)

    def check(self, machine, looks, many, walk):
        self.same((type(walk), len(walk)), (tuple, 4))
        state, row, more, look = walk
        self.same((type(state), type(row), type(more), type(look)), (int, tuple, tuple, str))
        self.same(len(row), many)
        self.assertIn(state, states_of(machine))
        self.assertIn(look, looks)
        for letter in row + more:
            self.assertIn(letter, machine[0])
        one = plain.made_of(machine, state, row + more)
        two = plain.made_of(machine, 0, row + more)
        self.assertNotEqual(plain.answers(machine, one, (look,)), plain.answers(machine, two, (look,)))

    def test_some_hundreds_of_letters(self):
        self.check(TURN, ('lit',), 300, unlike_walk(TURN, ('lit',), 300))
        self.same(unlike_walk(LAMP, ('lit',), 300), None)
