"""Points 5 to 7, 10, 64 to 66: promises that last, and rules that are right."""

from random import Random

from actasone.alikestates import folded
from actasone.counting import right_many
from actasone.kinds import is_book
from actasone.moving import least_look_age
from actasone.needs import needs_of
from actasone.rulelooks import catches, lasting, rule_is_right, rule_lacks, waking_is_right
from tests import plain, plainwhole
from tests import plainclocks as plainly
from tests.cases import Case
from tests.drawnbooks import SPAN, drawn_books, some_looking
from tests.samples import MIXED, BOOK, CALM, FOUR, LAMP, LIT, LOOKS, NEAR, PAST, ROUND, SPARE, THREE, TURN, machine_by_turns, set_in, set_of, some_of

AHEAD = set_in(NEAR, (2,), ('b', 'a', 0))


def ages_of(book):
    return (0,) if book[4] else (0, 1, 2, 3)


def with_looking(book, rule, entry):
    return set_in(book, (3, rule), entry)


class Lasting(Case):
    def test_example(self):
        self.same([rule_is_right(BOOK, rule) for rule in (0, 1, 2, 3)], [True, False, True, False])
        self.same(
            [rule_lacks(BOOK, 1), lasting(BOOK, 2), lasting(BOOK, 3), rule_lacks(BOOK, 3), catches(BOOK, 3, ('a', 'b'))],
            [(('a', 'b'),), ('b', 'c'), ('c',), (('a', 'b'),), False],
        )
        self.same(lasting((LAMP, CALM, AHEAD, LOOKS, ()), 3), ('b', 'c'))
        self.same([rule_is_right(MIXED, 0), waking_is_right(BOOK, 0), waking_is_right(MIXED, 0), waking_is_right(MIXED, 1)], [True, True, False, True])

    def test_drawn(self):
        """Against all settings near the gaps, and each set of houses."""
        seen = set()
        for book in drawn_books(120, seed=72):
            for rule, entry in enumerate(book[3]):
                late = plainwhole.lasting(book, rule, SPAN)
                self.same(lasting(book, rule), late)
                for lot in plain.all_falls(book[1]):
                    wanted = bool(set(lot) & (set(entry[2]) | set(late)))
                    self.same(catches(book, rule, lot), wanted)
                    seen.add((wanted, late != ()))
        self.assertEqual(len(seen), 4)

    def test_just_so_and_just_not(self):
        """By a's clock a promise of b lasts to its until less the gap from b to a."""
        for gap in (-3, 0, 2):
            clocks = (('a', 'b', 3), ('b', 'a', gap))
            for end in (-4, 0, 10):
                for until, wanted in ((end + gap - 1, ()), (end + gap, ('b',)), (end + gap + 1, ('b',))):
                    book = (LAMP, CALM, clocks, (('a', LIT, (), end, (('b', until),)),), ())
                    self.assertTrue(is_book(book))
                    self.same(lasting(book, 0), wanted)
                    self.same(catches(book, 0, ('b', 'c')), wanted != ())

    def test_gaps_that_are_any(self):
        book = (LAMP, CALM, (('a', 'b', -5),), (('a', LIT, (), 0, (('b', 999999), ('c', 999999))), ('b', LIT, (), 0, (('a', -5),))), ())
        self.same([lasting(book, 0), lasting(book, 1)], [(), ('a',)])

    def test_its_own_promise(self):
        """A house is not apart from itself: the gap is 0, without a triple."""
        for until, wanted in ((3, ()), (4, ('a',)), (5, ('a',))):
            self.same(lasting((LAMP, CALM, (), (('a', LIT, (), 4, (('a', until),)),), ()), 0), wanted)

    def test_the_gap_to_the_rule_s_house(self):
        """Not the one back, and not that to the first house."""
        clocks = (('b', 'c', 1), ('c', 'b', 4))
        for owner, house, until, wanted in (('b', 'c', 3, ()), ('b', 'c', 4, ('c',)), ('c', 'b', 0, ()), ('c', 'b', 1, ('b',))):
            self.same(lasting((LAMP, CALM, clocks, ((owner, LIT, (), 0, ((house, until),)),), ()), 0), wanted)

    def test_nothing_promised(self):
        self.same([lasting(BOOK, 0), lasting(BOOK, 1), catches(BOOK, 0, ()), catches(BOOK, 2, ())], [(), (), False, False])


class Right(Case):
    def test_drawn(self):
        seen = set()
        for book in drawn_books(150, seed=73):
            for rule in range(len(book[3])):
                for age in ages_of(book):
                    wanted = plainwhole.lacks(book, rule, age, SPAN)
                    self.same(rule_lacks(book, rule, age=age), wanted)
                    self.same(rule_is_right(book, rule, age=age), wanted == ())
                    seen.add((age, wanted == (), plainwhole.moves(book, rule, age)))
        self.assertEqual({part[1:] for part in seen}, {(True, True), (True, False), (False, True)})
        self.assertEqual({part[0] for part in seen if not part[1]}, {0, 1, 2, 3})

    def test_ages_by_look(self):
        """One of the looks is enough to move; 'hour' of ROUND moves past 1, and not past 2."""
        self.assertEqual([least_look_age(ROUND, 'day'), least_look_age(ROUND, 'hour')], [0, 2])
        for looks, right in ((('day',), (True, True, True)), (('hour',), (False, False, True)), (('day', 'hour'), (False, False, True))):
            book = (ROUND, CALM, NEAR, (('b', looks, ('c',), 'any', ()),), ())
            self.same(tuple(rule_is_right(book, 0, age=age) for age in (0, 1, 2)), right)
            self.same(tuple(rule_lacks(book, 0, age=age) for age in (0, 1, 2)), tuple(() if good else (('a', 'b'),) for good in right))

    def test_houses_without_needs(self):
        """Nobody follows: no other house is safe beside it, or there is none."""
        alone = (('a', (('a',),), ((),)),)
        self.same(rule_is_right((LAMP, alone, (), (('a', LIT, (), 'any', ()),), ()), 0), True)
        both = (('a', (('a',),), ((),)), ('b', (('b',),), ((),)))
        self.same(rule_lacks((LAMP, both, (), (('a', LIT, (), 'any', ()),), ()), 0), (('b',),))

    def test_the_need_that_is_nothing(self):
        """Where b can be told what it likes by c alone, no lot meets the need ()."""
        trust = (('a', (('a',),), (('c',),)), ('b', (('c',),), (('c',),)), ('c', (('c',),), ((),)))
        self.assertEqual(needs_of(trust, 'a')[0], ())
        book = (LAMP, trust, (), (('a', LIT, ('a', 'b', 'c'), 5, (('a', 9), ('b', 9), ('c', 9))), ('a', ('lit',), ('a',), 'any', ())), ())
        self.same([rule_lacks(book, 0), rule_lacks(book, 1), rule_is_right(book, 0)], [((),), ((),), False])

    def test_a_look_that_never_moves(self):
        for machine in (set_in(SPARE, (3,), ((4,), (4,), (4,), (9,))), set_in(LAMP, (3,), ((2,), (2,)))):
            book = (machine, THREE, (), (('a', LIT, (), 'any', ()), ('c', LIT, (), 7, (('b', 0),))), ())
            self.same([rule_is_right(book, 0), rule_is_right(book, 1), rule_lacks(book, 0)], [True, True, ()])

    def test_consequences(self):
        """Point 66: what makes a rule stay right."""
        random, many = Random(74), 0
        for book in drawn_books(160, seed=75):
            houses = tuple(plain.houses_of(book[1]))
            for rule, (house, looks, lot, end, promises) in enumerate(book[3]):
                if not rule_is_right(book, rule):
                    continue
                many += plainwhole.moves(book, rule, 0)
                more = set_of(lot + some_of(random, houses))
                late = with_looking(book, rule, (house, looks, more, end, promises))
                self.same(rule_is_right(late, rule), True)
                self.same(rule_is_right(book[:3] + ((book[3][rule],), ()), 0), True)
                if end != 'any':
                    untils = tuple((name, until + random.randint(0, 2)) for name, until in promises)
                    untils += tuple((name, random.randint(-3, 3)) for name in houses if name not in dict(promises))
                    late = with_looking(book, rule, (house, looks, lot, end - random.randint(0, 3), tuple(sorted(untils))))
                    self.same(rule_is_right(late, rule), True)
                if not book[4]:
                    self.same(rule_is_right(book, rule, age=random.randint(1, 6)), True)
                if promises == () and all(plainly.gap_of(book[2], name, house) != 'any' for name in lot):
                    mine = random.randint(-3, 3)
                    untils = tuple((name, mine + plainly.gap_of(book[2], name, house) + random.randint(0, 1)) for name in lot)
                    late = with_looking(book, rule, (house, looks, (), mine, untils))
                    self.same(rule_is_right(late, rule), True)
        self.assertGreater(many, 20)

    def test_whatever_the_other_rules_are(self):
        random = Random(76)
        for book in drawn_books(60, seed=77):
            houses = tuple(plain.houses_of(book[1]))
            for rule in range(len(book[3])):
                late = book[:3] + (book[3] + (some_looking(random, book[0], houses),),) + book[4:]
                self.same(rule_lacks(late, rule), rule_lacks(book, rule))


class Waking(Case):
    def test_drawn(self):
        seen = set()
        for book in drawn_books(200, seed=78, waking=True, most=4):
            for waking, (house, _) in enumerate(book[4]):
                wanted = plainwhole.is_waking_right(book, waking)
                self.same(waking_is_right(book, waking), wanted)
                seen.add((wanted, plainwhole.looks_of_house(book, house) == ()))
        self.assertEqual(seen, {(True, True), (True, False), (False, False)})

    def test_all_looks_of_all_its_rules(self):
        """PAST: one letter makes all alike by new, two by old."""
        self.assertEqual([right_many(PAST, ('new',)), right_many(PAST, ('old',))], [1, 2])
        asks = (('a', ('new',), (), 'any', ()), ('a', ('old',), (), 'any', ()), ('b', ('new',), (), 'any', ()))
        book = (PAST, CALM, (), asks, (('a', 1), ('a', 2), ('b', 1), ('c', 1)))
        self.same([waking_is_right(book, k) for k in range(4)], [False, True, True, True])
        fewer = book[:3] + (asks[:1] + asks[2:],) + book[4:]
        self.same([waking_is_right(fewer, k) for k in range(4)], [True] * 4)

    def test_counts(self):
        """From the least number of letters on; folded states settle as they do."""
        random = Random(79)
        for _ in range(40):
            machine = machine_by_turns(random, random.randint(2, 5), 2, 2)
            looks = some_of(random, machine[1]) or machine[1]
            for late in (machine, folded(machine)):
                book = (late, CALM, (), (('a', looks, (), 'any', ()),), tuple(('a', many) for many in range(1, 9)))
                least = right_many(machine, looks)
                self.same([waking_is_right(book, k) for k in range(8)], [least is not None and many >= least for many in range(1, 9)])

    def test_states_that_are_not_reached(self):
        """A house can wake in a state that the start never comes to."""
        apart = (('go', 'stay'), LIT, ((0, 0), (1, 1)), ((0,), (1,)))
        self.assertEqual(plain.reachable(apart), (0,))
        book = (apart, CALM, (), (('a', LIT, (), 'any', ()),), (('a', 1), ('a', 8)))
        self.same([rule_is_right(book, 0), waking_is_right(book, 0), waking_is_right(book, 1)], [True, False, False])

    def test_five_houses(self):
        """Of the greatest size that is meant."""
        self.same(rule_is_right((TURN, FOUR, (), (('d', LIT, ('a', 'b', 'c'), 'any', ()),), ()), 0), True)
