"""The examples of the document, word for word, each with all that stands above it."""

import unittest

from actasone import errors

EXAMPLES = r'''
>>> LAMP = (('off', 'on'), ('lit',), ((0, 1), (0, 1)), ((0,), (1,)))
>>> PAIRS = (('a', 'b'), ('a', 'c'), ('b', 'c'))
>>> THREE = (('a', PAIRS, (('b',), ('c',))), ('b', PAIRS, (('a',), ('c',))), ('c', PAIRS, (('a',), ('b',))))
>>> CALM = (('a', PAIRS, ((),)), ('b', PAIRS, ((),)), ('c', PAIRS, ((),)))

>>> from actasone.partschecker import lets_parts
>>> lets_parts((LAMP, (('a', (), ((),)),), (), (), ()))
raises InvalidPaper(word='lots', at=(1, 0))

>>> from actasone.machinechanges import renumbered
>>> renumbered(LAMP, (1, 0))[2:]
(((1, 0), (1, 0)), ((1,), (0,)))

>>> from actasone.readings import machine_read
>>> from actasone.texts import book_text
>>> SMALL = (LAMP, CALM, (('a', 'b', 2),), (('a', ('lit',), (), 10, (('b', 12), ('c', -1))),), (('a', 3),))
>>> book_text(SMALL).split('\n')[3:5] + book_text(SMALL).split('\n')[7:]
['state 0 1 : 1', 'house a : a,b a,c b,c : -', 'gap a b 2', 'looking a lit - 10 b:12 c:-1', 'waking a 3']
>>> machine_read('letters off on\nlooks lit\nstate 0 1 : 0')
raises InvalidText(line=2, field=2)

>>> from actasone.machineclasses import Machine
>>> one = Machine(*LAMP)
>>> [one == Machine.read(str(one)), one[1], one(0, ('on', 'on')), 2 in one]
[True, ((0, 1), (1,)), 1, False]

>>> from actasone.reaching import reachable_states, row_to
>>> DIAL = (('down', 'up'), ('high', 'low'), ((0, 1), (0, 2), (1, 2)), ((0, 1), (0, 0), (1, 0)))
>>> SPARE = (('hold', 'turn'), ('lit',), ((2, 1), (1, 0), (0, 1), (3, 3)), ((0,), (1,), (0,), (1,)))
>>> [reachable_states(SPARE), row_to(SPARE, 3), row_to(DIAL, 2)]
[(0, 1, 2), None, ('up', 'up')]

>>> from actasone.alikestates import alike_classes, folded, least_machine, parting_row, starts_alike
>>> [alike_classes(DIAL, ('high',)), alike_classes(SPARE, ('lit',))]
[(0, 1, 2), (0, 1, 0, 3)]
>>> [parting_row(DIAL, 0, 1, ('high',)), parting_row(SPARE, 0, 2, ('lit',))]
[('up',), None]
>>> [least_machine(SPARE)[2:], folded(SPARE)[2:], starts_alike(SPARE, folded(SPARE))]
[(((0, 1), (1, 0)), ((0,), (1,))), (((0, 1), (1, 0), (2, 2)), ((0,), (1,), (1,))), True]

>>> from actasone.moving import least_look_age, moves_past
>>> ROUND = (('tick', 'tock'), ('day', 'hour'), ((1, 1), (2, 2), (0, 0)), ((0, 0), (0, 1), (0, 2)))
>>> [moves_past(LAMP, 'lit', 6), least_look_age(ROUND, 'day'), least_look_age(ROUND, 'hour')]
[True, 0, 2]

>>> from actasone.counting import partings_of, right_many, settles
>>> PAST = (('no', 'yes'), ('new', 'old'), ((0, 1), (2, 3), (0, 1), (2, 3)), ((0, 0), (1, 0), (0, 1), (1, 1)))
>>> [right_many(LAMP, ('lit',)), right_many(DIAL, ('low',)), right_many(PAST, ('new', 'old'))]
[1, None, 2]
>>> [partings_of(PAST, ('old',), 2), settles(PAST, ('old',), 1)]
[((0, 1, 2, 3), (0, 1, 0, 1), (0, 0, 0, 0)), False]

>>> from actasone.alikechecker import lets_alike
>>> lets_alike(SPARE, 1, 3, ('lit',), ('alike', (0, 1, 0, 1)))
raises InvalidPaper(word='letter', at=(3, 1))

>>> from actasone.walkclasses import Walk
>>> walk = Walk(DIAL, 1, ('up',))
>>> [walk.take('up'), walk.take('down'), walk['high'], str(walk), 0 in walk, walk.back(), list(walk)]
[2, 1, 0, '1 up 2 up 2 down 1', False, 'down', [1, 2, 2]]

>>> from actasone.falls import common_falls, greatest_falls, is_safe, safe_houses
>>> TRIOS = (('a', 'b', 'c'), ('a', 'b', 'd'), ('a', 'c', 'd'), ('b', 'c', 'd'))
>>> FEARS = (('b',), ('c',), ('d',)), (('a',), ('c',), ('d',)), (('a',), ('b',), ('d',)), (('a',), ('b',), ('c',))
>>> FOUR = (('a', TRIOS, FEARS[0]), ('b', TRIOS, FEARS[1]), ('c', TRIOS, FEARS[2]), ('d', TRIOS, FEARS[3]))
>>> [is_safe(THREE, 'a', ('b',)), is_safe(THREE, 'a', ('b', 'c')), is_safe(THREE, 'a', ('a',)), safe_houses(THREE, ()), safe_houses(CALM, ('a',))]
[True, False, False, ('a', 'b', 'c'), ()]
>>> [greatest_falls(THREE, 'a'), common_falls(THREE, 'a', 'b'), common_falls(CALM, 'a', 'b'), common_falls(FOUR, 'a', 'b')]
[(('b',), ('c',)), (('c',),), ((),), (('c',), ('d',))]
>>> is_safe(THREE, 'd', ())
raises NotUsable(word='house', at=-1)
'''


def steps(text):
    """Pairs of a row of code and the rows that tell its result."""
    for part in text.strip().split('>>> ')[1:]:
        code, _, result = part.partition('\n')
        yield code, result.strip()


class Examples(unittest.TestCase):
    def test_examples(self):
        known = {}
        many = 0
        for code, wanted in steps(EXAMPLES):
            with self.subTest(code=code):
                if not wanted:
                    exec(code, known)
                    continue
                many += 1
                if wanted.startswith('raises '):
                    error = eval(wanted[len('raises '):], vars(errors).copy())
                    with self.assertRaises(type(error)) as caught:
                        eval(code, known)
                    self.assertIs(type(caught.exception), type(error))
                    self.assertEqual(repr(vars(caught.exception)), repr(vars(error)))
                else:
                    self.assertEqual(repr(eval(code, known)), wanted)
        self.assertGreater(many, 15)
