"""Point 16: each word, its place, and the order of the words."""

from random import Random

from actasone.kinds import is_book, is_clocks, is_machine, is_trust
from actasone.partschecker import lets_clocks, lets_machine, lets_parts, lets_trust
from tests import plain
from tests.cases import Case
from tests.samples import (
    BOOK, CALM, DIAL, FOUR, LAMP, LOOKS, NEAR, ODD, SMALL, SPARE, THREE, WIDE, changes_of, set_in, trusts,
)

L, K = ('a', 'b'), ('k',)
M = ((0, 1), (1, 0), (1, 1))
A = ((0,), (1,), (2,))


class Machines(Case):
    def test_how_many(self):
        for machine, many in ((LAMP, 2), (DIAL, 3), (SPARE, 4), (WIDE, 6), ((L, K, M, A), 3)):
            self.same(lets_machine(machine), many)
            self.same(lets_machine(thing=machine), many)

    def test_shape(self):
        for thing in ODD + [list(LAMP), LAMP[:3], LAMP + ((),), (LAMP,), ([], [], []), ()]:
            self.wrong('shape', -1, lets_machine, thing)

    def test_letters(self):
        bad = [(), ('a',), ('b', 'a'), ('a', 'a'), ('a', 'any'), ('a', 'B'), ('a', 'abcdefghi'), ('', 'a'), ['a', 'b']]
        bad += [None, 'ab', ('a', 1), ('a', None), ('a', ['b']), (('a', 'b'),), ('a', 'b', 'b'), ('a', 'c', 'b'), True]
        for letters in bad:
            self.wrong('letters', -1, lets_machine, (letters, K, M, A))
            self.wrong('letters', -1, lets_machine, (letters, (), (), ()))
            self.wrong('letters', -1, lets_machine, (letters, None, M, A))
        self.same(lets_machine((('a', 'abcdefgh'), K, M, A)), 3)

    def test_looks(self):
        bad = [(), ('b', 'a'), ('a', 'a'), ('any',), ('B',), ('abcdefghi',), ('',), ['a'], None, 'a', (1,), (['b'],), 0]
        for looks in bad:
            self.wrong('looks', -1, lets_machine, (L, looks, M, A))
            self.wrong('looks', -1, lets_machine, (L, looks, (), A))
            self.wrong('looks', -1, lets_machine, (L, looks, ((0,),), None))
        self.same(lets_machine((L, ('abcdefgh',), M, A)), 3)

    def test_moves(self):
        for moves in ((), [], None, True, 'ab', list(M), 3):
            self.wrong('moves', -1, lets_machine, (L, K, moves, A))
            self.wrong('moves', -1, lets_machine, (L, K, moves, ()))

    def test_move(self):
        bad = [(), (0,), (0, 0, 0), (0, 3), (3, 0), (0, -1), (0, True), (False, 0), (0, None), [0, 0], None, 0, (0, [0])]
        for row in bad + [('0', '1'), ((0,), 1), 'ab']:
            for state in range(3):
                moves = M[:state] + (row,) + M[state + 1 :]
                self.wrong('move', state, lets_machine, (L, K, moves, A))
                self.wrong('move', state, lets_machine, (L, K, moves, None))
                self.wrong('move', state, lets_machine, (L, K, moves, ((0,), (True,), (0,))))
                self.wrong('move', state, lets_machine, (L, K, moves[: state + 1] + ((0, -1),) * (2 - state), A))
        self.same(lets_machine((L, K, ((0, 2),) + M[1:], A)), 3)

    def test_answers(self):
        for answers in ((), A[:2], A + ((0,),), list(A), None, 'abc', 3, True):
            self.wrong('answers', -1, lets_machine, (L, K, M, answers))

    def test_answers_ahead_of_answer(self):
        self.wrong('answers', -1, lets_machine, (L, K, M, ((-1,), (0,))))

    def test_answer(self):
        for row in ((), (0, 0), (-1,), (True,), (None,), ('0',), [0], 0, None, ((0,),), ([0],)):
            for state in range(3):
                answers = A[:state] + (row,) + A[state + 1 :]
                self.wrong('answer', state, lets_machine, (L, K, M, answers))
                self.wrong('answer', state, lets_machine, (L, K, M, answers[: state + 1] + ((-1,),) * (2 - state)))
        self.same(lets_machine((L, K, M, ((10 ** 60,),) + A[1:])), 3)


class Trusts(Case):
    def test_how_many(self):
        for trust in (THREE, CALM, FOUR) + tuple(trusts(20)):
            self.same(lets_trust(trust), len(trust))
            self.same(lets_trust(thing=trust), len(trust))

    def test_shape(self):
        for thing in [value for value in ODD if type(value) is not tuple or not value] + [list(CALM)]:
            self.wrong('shape', -1, lets_trust, thing)

    def test_house(self):
        for entry in (None, 'abc', (), ('b', CALM[1][1]), CALM[1] + ((),), list(CALM[1]), ('any',) + CALM[1][1:], 'b'):
            for k in range(3):
                self.wrong('house', k, lets_trust, CALM[:k] + (entry,) + CALM[k + 1 :])
        for name in ('', 'B', 'abcdefghi', None, 1, ['b'], ('b',), True):
            self.wrong('house', 1, lets_trust, set_in(CALM, (1, 0), name))
        self.wrong('house', 1, lets_trust, set_in(CALM, (1, 0), 'a'))
        self.wrong('house', 2, lets_trust, set_in(CALM, (1, 0), 'c'))
        self.wrong('house', 1, lets_trust, (CALM[1], CALM[0], CALM[2]))
        self.wrong('house', 0, lets_trust, (('zz',),))

    def test_houses_ahead_of_lots(self):
        self.wrong('house', 2, lets_trust, (('a', (), ()), ('b', (), ()), ('b', (), ())))
        self.wrong('house', 2, lets_trust, (('a', None, None), ('b', None, None), None))
        self.wrong('lots', 0, lets_trust, (('a', (), ()), ('b', (), ())))
        self.wrong('fears', 0, lets_trust, (('a', (('a',),), ()), ('b', (), ())))
        self.wrong('lots', 1, lets_trust, (('a', (('b',),), ((),)), ('b', (), ())))

    def test_lots(self):
        bad = [(), ((),), ((), ('a',)), (('b', 'a'),), (('a', 'a'),), (('a',), ('a',)), (('b',), ('a',)), (('d',),), None]
        bad += [[('a',)], (['a'],), ('a',), 'a', (('a', None),), ((['a'],),), (('a', 'd'),), ((True,),), True, ((('a',),),)]
        for lots in bad:
            for k in range(3):
                self.wrong('lots', k, lets_trust, set_in(CALM, (k, 1), lots))
                self.wrong('lots', k, lets_trust, set_in(set_in(CALM, (k, 1), lots), (k, 2), ()))
        self.same(lets_trust(set_in(CALM, (1, 1), (('b',), ('b', 'c'), ('c',)))), 3)

    def test_fears(self):
        bad = [(), (('b', 'a'),), (('a',), ('a',)), (('c',), ('a',)), (('d',),), None, [()], ([],), ('a',), 'a', (None,)]
        bad += [(('a',), ()), ((), ()), ((['a'],),), ((1,),), True]
        for fears in bad:
            self.wrong('fears', 1, lets_trust, set_in(CALM, (1, 2), fears))
        for k, name in enumerate('abc'):
            self.wrong('fears', k, lets_trust, set_in(CALM, (k, 2), ((name,),)))
            self.wrong('fears', k, lets_trust, set_in(CALM, (k, 2), (('a', 'b', 'c'),)))
        self.same(lets_trust(set_in(CALM, (1, 2), ((), ('a',), ('a', 'c')))), 3)


class Clocks(Case):
    def test_how_many(self):
        for trust, clocks in ((CALM, NEAR), (CALM, ()), (FOUR, NEAR), (THREE, NEAR), (CALM, (('c', 'a', -10 ** 60),))):
            self.same(lets_clocks(trust, clocks), len(clocks))
            self.same(lets_clocks(thing=clocks, trust=trust), len(clocks))

    def test_shape(self):
        for thing in [value for value in ODD if type(value) is not tuple] + [list(NEAR)]:
            self.wrong('shape', -1, lets_clocks, CALM, thing)

    def test_triple(self):
        bad = [None, (), ('a', 'b'), ('a', 'b', 1, 1), ['a', 'b', 1], ('a', 'a', 1), ('a', 'd', 1), ('d', 'a', 1)]
        bad += [('a', 'b', True), ('a', 'b', 'any'), ('a', 'b', None), ('a', ['b'], 1), (1, 2, 3), 'ab1', ('A', 'b', 1)]
        for triple in bad:
            for k in range(len(NEAR)):
                self.wrong('triple', k, lets_clocks, CALM, NEAR[:k] + (triple,) + NEAR[k + 1 :])
                self.wrong('triple', k, lets_clocks, CALM, NEAR[:k] + (triple, triple))
        self.wrong('triple', 0, lets_clocks, CALM[:1] and (('a', (('a',),), ((),)),), (('a', 'b', 1),))

    def test_order(self):
        self.wrong('order', 1, lets_clocks, CALM, (('a', 'b', 1), ('a', 'b', 2)))
        self.wrong('order', 1, lets_clocks, CALM, (('b', 'a', 1), ('a', 'b', 2)))
        self.wrong('order', 2, lets_clocks, CALM, (('a', 'b', 1), ('b', 'c', 1), ('b', 'a', 2)))
        self.wrong('order', 3, lets_clocks, CALM, NEAR[:3] + (NEAR[2],))

    def test_one_element_ahead_of_the_next(self):
        self.wrong('order', 1, lets_clocks, CALM, (('b', 'a', 1), ('a', 'b', 2), None))
        self.wrong('triple', 1, lets_clocks, CALM, (('b', 'a', 1), None, ('a', 'b', 2)))
        self.wrong('triple', 1, lets_clocks, CALM, (('b', 'a', 1), ('a', 'b', None)))
        self.wrong('order', 2, lets_clocks, CALM, (('a', 'b', -5), ('b', 'a', 1), ('a', 'c', 2)))
        self.wrong('triple', 2, lets_clocks, CALM, (('a', 'b', -5), ('b', 'a', 1), ('c', 'd', 2)))

    def test_triangle(self):
        self.wrong('triangle', ('a', 'b', 'a'), lets_clocks, CALM, (('a', 'b', 1), ('b', 'a', -2)))
        self.wrong('triangle', ('a', 'b', 'c'), lets_clocks, CALM, (('a', 'b', 1), ('b', 'c', 1)))
        self.wrong('triangle', ('a', 'b', 'c'), lets_clocks, CALM, (('a', 'b', 1), ('a', 'c', 3), ('b', 'c', 1)))
        self.same(lets_clocks(CALM, (('a', 'b', 1), ('a', 'c', 2), ('b', 'c', 1))), 3)
        self.wrong('triangle', ('b', 'c', 'b'), lets_clocks, CALM, (('b', 'c', 1), ('c', 'b', -2)))
        self.wrong('triangle', ('c', 'a', 'b'), lets_clocks, CALM, (('a', 'b', -1), ('c', 'a', 1)))
        self.wrong('triangle', ('a', 'c', 'b'), lets_clocks, CALM, set_in(NEAR, (0, 2), 5))
        self.wrong('triangle', ('a', 'b', 'a'), lets_clocks, CALM, set_in(NEAR, (0, 2), -3))

    def test_just_nought_together(self):
        for gap in (0, 7, -7, 10 ** 60):
            self.same(lets_clocks(CALM, (('a', 'b', gap), ('b', 'a', -gap))), 2)
            self.wrong('triangle', ('a', 'b', 'a'), lets_clocks, CALM, (('a', 'b', gap), ('b', 'a', -gap - 1)))

    def test_the_least_triangle(self):
        random = Random(9)
        for _ in range(1500):
            names = 'abcd'
            triples = tuple(
                (p, q, random.randint(-1, 4)) for p in names for q in names if p != q and random.random() < 0.7
            )
            wanted = plain.triangle_of(triples)
            if wanted is None:
                self.same(lets_clocks(FOUR, triples), len(triples))
            else:
                self.wrong('triangle', wanted, lets_clocks, FOUR, triples)


class Parts(Case):
    def test_how_many(self):
        self.same(lets_parts(BOOK), 5)
        self.same(lets_parts(thing=SMALL), 2)
        self.same(lets_parts((LAMP, THREE, (), (), ())), 0)
        self.same(lets_parts((LAMP, THREE, (), (), (('a', 1), ('a', 1)))), 2)

    def test_example(self):
        self.wrong('lots', (1, 0), lets_parts, (LAMP, (('a', (), ((),)),), (), (), ()))

    def test_shape(self):
        for thing in ODD + [list(BOOK), BOOK[:4], BOOK + ((),), LAMP]:
            self.wrong('shape', -1, lets_parts, thing)

    def test_parts_ahead(self):
        for k, words in (
            (0, [('shape', -1, None), ('letters', -1, ((),) + LAMP[1:]), ('looks', -1, (L, ()) + LAMP[2:])]),
            (0, [('moves', -1, LAMP[:2] + ((), ())), ('move', 1, set_in(LAMP, (2, 1), ())), ('answers', -1, set_in(LAMP, (3,), ()))]),
            (0, [('answer', 1, set_in(LAMP, (3, 1), (True,)))]),
            (1, [('shape', -1, ()), ('house', 1, CALM[:1] + CALM[:1]), ('fears', 2, set_in(CALM, (2, 2), ()))]),
            (1, [('lots', 1, set_in(CALM, (1, 1), ()))]),
            (2, [('shape', -1, []), ('triple', 1, NEAR[:1] + (('a', 'd', 1),)), ('order', 1, NEAR[:1] * 2)]),
            (2, [('triangle', ('a', 'b', 'c'), (('a', 'b', 1), ('b', 'c', 1)))]),
        ):
            for word, at, part in words:
                self.wrong(word, (k, at), lets_parts, set_in(BOOK, (k,), part))
                late = BOOK[:k] + (part,) + (None,) * (4 - k)
                self.wrong(word, (k, at), lets_parts, late)

    def test_looking(self):
        for looking in (None, [], 'a', True, list(LOOKS), 0):
            self.wrong('looking', -1, lets_parts, set_in(BOOK, (3,), looking))
            self.wrong('looking', -1, lets_parts, BOOK[:3] + (looking, None))

    def test_rules_of_looking(self):
        bad = [None, (), list(LOOKS[0]), ('d',) + LOOKS[0][1:], ('a', ('dim',), (), 0, ()), ('a', (), (), 0, ())]
        bad += [('a', ('lit',), ('d',), 0, ()), ('a', ('lit',), (), 0, (('d', 1),)), ('a', ('lit',), (), True, ())]
        bad += [('a', ('lit',), (), 'any', (('a', 1),)), ('a', 1)]
        for rule in bad:
            for k in range(4):
                self.wrong('rule', (3, k), lets_parts, set_in(BOOK, (3, k), rule))
                self.wrong('rule', (3, k), lets_parts, BOOK[:3] + (LOOKS[:k] + (rule, None), None))

    def test_waking(self):
        for waking in (None, [], 'a', True, [('a', 1)], 0):
            self.wrong('waking', -1, lets_parts, set_in(BOOK, (4,), waking))
        for rule in (None, (), ['a', 1], ('d', 1), ('a', 0), ('a', True), ('a', 1, 1), LOOKS[0], 'a'):
            self.wrong('rule', (4, 0), lets_parts, set_in(BOOK, (4, 0), rule))
            self.wrong('rule', (4, 2), lets_parts, BOOK[:4] + ((('a', 1), ('b', 2), rule, None),))

    def test_as_the_kinds(self):
        """A checker lets just what the kind is, whatever place is changed."""
        for judge, lets, value in (
            (is_machine, lets_machine, DIAL), (is_trust, lets_trust, CALM), (is_book, lets_parts, SMALL),
            (is_clocks, lambda thing: lets_clocks(CALM, thing), NEAR[:0] + (('a', 'b', 1), ('b', 'a', -1))),
        ):
            for late in changes_of(value):
                try:
                    lets(late)
                    let = True
                except ValueError:
                    let = False
                wanted = judge(late)
                if judge is is_clocks and wanted:
                    wanted = all(part[0] in 'abc' and part[1] in 'abc' for part in late)
                self.same((late, let), (late, wanted))
