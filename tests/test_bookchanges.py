"""Points 27, 38, 64, 74, 83: books changed, compared, and as objects."""

from random import Random

from actasone.bookchanges import books_alike, with_rule, without_rule
from actasone.bookclasses import Book
from actasone.oneness import run_is_one
from actasone.whole import fault_run, faults_of, is_as_one
from tests import plain, plainwhole
from tests.cases import Case
from tests.drawnbooks import SPAN, drawn_book, drawn_books, some_clocks, some_looking
from tests.samples import (
    ALL, BOOK, CALM, DIAL, FLIP, FOUR, LAMP, LIT, LONE, MIXED, NEAR, ODD, SMALL, SOUND, SPARE, THREE, TORN, TURN, WRONG, changes_of, set_in, set_of,
)


def is_rule(book, value):
    houses = plain.houses_of(book[1])
    is_house = lambda name: type(name) is str and name in houses
    is_look = lambda name: type(name) is str and name in book[0][1]
    return plain.is_looking(value, is_house, is_look) or plain.is_waking(value, is_house)


def alike(book, other):
    """Told slowly: both machines side by side, needs and promises, and all faults."""
    if not starts_alike(book[0], other[0]):
        return False
    if any(plain.needs_of(book[1], house) != plain.needs_of(other[1], house) for house in plain.houses_of(book[1])):
        return False
    if any(plainwhole.lasting(book, rule, SPAN) != plainwhole.lasting(other, rule, SPAN) for rule in range(len(book[3]))):
        return False
    return plainwhole.faults(book, 0, SPAN) == plainwhole.faults(other, 0, SPAN)


def starts_alike(machine, other):
    """Over all pairs of states that a row comes to from both starts."""
    found, order = {(0, 0)}, [(0, 0)]
    for one, two in order:
        if machine[3][one] != other[3][two]:
            return False
        for pair in zip(machine[2][one], other[2][two]):
            if pair not in found:
                found.add(pair)
                order.append(pair)
    return True


def doubled(random, machine):
    """The machine with a state more that is as one of it, to which some letters lead instead."""
    state = random.randrange(len(machine[2]))
    late = len(machine[2])
    moves = tuple(tuple(late if led == state and random.random() < 0.5 else led for led in row) for row in machine[2] + (machine[2][state],))
    return machine[:2] + (moves, machine[3] + (machine[3][state],))


def turned(random, machine):
    """The machine with the states but the start renumbered."""
    order = [0] + random.sample(range(1, len(machine[2])), len(machine[2]) - 1)
    moves = tuple(tuple(order.index(led) for led in machine[2][state]) for state in order)
    return machine[:2] + (moves, tuple(machine[3][state] for state in order))


class Rules(Case):
    def test_with_rule(self):
        for book in drawn_books(40, seed=150):
            rule = some_looking(Random(len(book[3])), book[0], tuple(plain.houses_of(book[1])))
            self.same(with_rule(book, rule), set_in(book, (3,), book[3] + (rule,)))
            waking = (plain.houses_of(book[1])[-1], 7)
            self.same(with_rule(book, waking), set_in(book, (4,), book[4] + (waking,)))
        self.same(with_rule(rule=('b', 2), book=SOUND), set_in(SOUND, (4,), (('a', 1), ('b', 2))))

    def test_with_rules_of_other_kinds(self):
        rules = [SOUND[3][1], SOUND[4][0], ('a', LIT, (), 'any', (('b', 1),)), ('d', 1), ('a', ('dim',), (), 'any', ()), ('a', LIT, ('d',), 3, ())]
        for rule in rules + [late for rule in rules[:2] for late in changes_of(rule)] + ODD:
            if is_rule(SOUND, rule):
                self.same(with_rule(SOUND, rule)[3:], (SOUND[3] + (rule,), SOUND[4]) if len(rule) == 5 else (SOUND[3], SOUND[4] + (rule,)))
            else:
                self.refused('rule', with_rule, SOUND, rule)
                self.refused('book', with_rule, SOUND[:4], rule)

    def test_without_rule(self):
        for book in drawn_books(40, seed=151):
            for at, word in ((3, 'looking'), (4, 'waking')):
                for k in range(len(book[at])):
                    self.same(without_rule(book, (word, k)), set_in(book, (at,), book[at][:k] + book[at][k + 1 :]))
                self.refused('fault', without_rule, book, (word, len(book[at])))
        self.same(without_rule(fault=('waking', 0), book=SOUND), set_in(SOUND, (4,), ()))

    def test_a_rule_that_stands_twice(self):
        """The one at the index goes, and the other stays where it stands."""
        twice = set_in(WRONG, (3,), (WRONG[3][0], WRONG[3][1], WRONG[3][0]))
        self.same(without_rule(twice, ('looking', 0))[3], (WRONG[3][1], WRONG[3][0]))
        self.same(without_rule(twice, ('looking', 2))[3], WRONG[3])
        self.same(with_rule(with_rule(SOUND, ('a', 1)), ('a', 1))[4], (('a', 1),) * 3)
        self.same(without_rule(with_rule(SOUND, ('a', 1)), ('waking', 1)), SOUND)

    def test_what_names_no_rule(self):
        bad = ODD + [('looking', 2), ('waking', 1), ('looking', -1), ('looking', True), ('waking', False), ('odds', ('a', 0), ('b', 0)), ['looking', 0]]
        for fault in bad + [('looking',), ('looking', 0, 0), ('Looking', 0), ('looking', '0'), ('looking', (0,))]:
            self.refused('fault', without_rule, SOUND, fault)
            self.refused('book', without_rule, None, fault)


class Alike(Case):
    def test_by_turns(self):
        """Machines renumbered or doubled, lots, fears and gaps of another kind, with the same needs or not."""
        random = Random(152)
        seen = {True: 0, False: 0, 'same needs': 0}
        for book in list(drawn_books(70, seed=153)) + [SOUND, WRONG, MIXED, BOOK]:
            houses = tuple(plain.houses_of(book[1]))
            others = [book, set_in(book, (0,), doubled(random, book[0])), set_in(book, (0,), turned(random, doubled(random, book[0])))]
            others.append(set_in(book, (2,), some_clocks(random, houses)))
            for k, (house, lots, fears) in enumerate(book[1]):
                others.append(set_in(book, (1, k, 1), set_of(lots + (houses,))))
                others.append(set_in(book, (1, k, 1), lots[:1]))
                others.append(set_in(book, (1, k, 2), set_of(fears + (tuple(name for name in houses if name != house)[:1],))))
                others.append(set_in(book, (1, k, 2), fears[-1:]))
            others.append(set_in(book, (0, 3), tuple(tuple(1 - min(1, number) for number in row) for row in book[0][3])))
            for other in others:
                wanted = alike(book, other)
                self.same(books_alike(book, other), wanted)
                self.same(books_alike(other, book), wanted)
                seen[wanted] += 1
                seen['same needs'] += wanted and other[1] != book[1]
        self.assertGreater(min(seen.values()), 40, seen)

    def test_each_part(self):
        """Only the starts, only the needs, only what lasts, only the faults are unlike."""
        asks = (('a', LIT, ('a', 'b', 'c'), 10, (('b', 12),)),)
        book = (LAMP, CALM, NEAR, asks, ())
        self.same(books_alike(book, set_in(book, (0, 3), ((0,), (2,)))), False)
        self.same(books_alike(book, set_in(book, (2, 2, 2), 3)), False)
        self.same(books_alike(book, set_in(book, (2, 2, 2), 1)), True)
        self.same(books_alike(book, set_in(book, (1, 2, 1), (('a', 'b'), ('a', 'b', 'c'), ('a', 'c'), ('b', 'c')))), True)
        fewer = (('a', 'b', 'c'), ('a', 'c'), ('b', 'c'))
        self.same(books_alike(book, set_in(book, (1, 2, 1), fewer)), True)
        self.same(books_alike(book, set_in(set_in(book, (1, 1, 1), fewer), (1, 2, 1), fewer)), False)
        alone = (LAMP, (('a', (('a',),), ((),)), ('b', (('a',),), ((),))), (), (), ())
        torn = set_in(alone, (1, 1), ('b', (('a',), ('b',)), ((),)))
        self.same([books_alike(alone, alone), books_alike(alone, torn)], [True, False])
        # One of two lots is within the other: nobody needs it, but it stands among the pairs at odds.
        lots = (LAMP, (('a', (('a', 'b'),), ((),)), ('b', (('a',),), ((),)), ('c', (('b',),), ((),))), (), (), ())
        more = set_in(lots, (1, 2, 1), (('b',), ('b', 'c')))
        self.assertEqual([plain.needs_of(lots[1], house) for house in 'abc'], [plain.needs_of(more[1], house) for house in 'abc'])
        self.same([books_alike(lots, more), len(faults_of(lots)) < len(faults_of(more))], [False, True])

    def test_rules_of_waking(self):
        """States that the start does not come to count for these alone."""
        spare = (SPARE[0], LIT, ((0, 1), (1, 0), (2, 2)), ((0,), (1,), (0,)))
        book = (set_in(spare, (2, 1), (0, 1)), CALM, NEAR, (('a', LIT, ('a', 'b'), 'any', ()),), (('a', 1),))
        less = set_in(book, (0,), (SPARE[0], LIT, ((0, 1), (0, 1)), ((0,), (1,))))
        self.assertTrue(starts_alike(book[0], less[0]))
        self.same([is_as_one(book), is_as_one(less), books_alike(book, less)], [False, True, False])
        self.same(books_alike(set_in(book, (4,), ()), set_in(less, (4,), ())), True)

    def test_books_that_are_not_compared(self):
        bad = [value for value in ODD] + [value for value in changes_of(SOUND) if not plain.is_book(value)][::9] + [
            set_in(SOUND, (0,), DIAL), set_in(SOUND, (0, 0), ('off', 'out')), set_in(SOUND, (0, 1), ('dim',)), (LAMP, FOUR) + SOUND[2:],
            set_in(SOUND, (3,), SOUND[3][:1]), set_in(SOUND, (3,), SOUND[3][::-1]), set_in(SOUND, (4,), ()), set_in(SOUND, (4,), (('a', 2),)), WRONG, BOOK,
            set_in(SOUND, (3, 1, 4, 0, 1), 13), SOUND[:4], list(SOUND), TORN, ALL,
        ]
        for other in bad:
            self.refused('other', books_alike, SOUND, other)
            self.refused('book', books_alike, None, other)
        self.same(books_alike(other=SOUND, book=SOUND), True)
        self.same(books_alike((LAMP, THREE, NEAR, (), ()), (set_in(LAMP, (3, 0), (4,)), CALM, (), (), ())), False)


class Books(Case):
    def test_what_it_tells(self):
        for book in list(drawn_books(40, seed=154)) + [BOOK, SOUND, WRONG, MIXED, TORN, ALL, SMALL]:
            one = Book(*book)
            self.same(one.book_now, book)
            self.same(one.faults_now, faults_of(book))
            self.same(one.is_one_now, is_as_one(book))
            self.same(len(one), len(book[3]) + len(book[4]))
            self.same(list(one), list(book[3] + book[4]))
            self.same(tuple(one), book[3] + book[4])
            for fault in one.faults_now[:4]:
                self.same(one.run(fault), fault_run(book, fault))
                self.same(run_is_one(book, one.run(fault)), False)
            self.assertTrue(one == Book(*book))

    def test_by_name(self):
        machine, trust, clocks, looking, waking = SOUND
        one = Book(waking=waking, looking=looking, clocks=clocks, trust=trust, machine=machine)
        self.assertTrue(one == Book(*SOUND))
        self.same(Book(*WRONG).run(fault=('looking', 1)), fault_run(WRONG, ('looking', 1)))

    def test_the_first_part_that_does_not_fit(self):
        """Parts that are wrong by themselves, and parts that do not fit those ahead of them."""
        names = ('machine', 'trust', 'clocks', 'looking', 'waking')
        for k, name in enumerate(names):
            for value in ODD + list(changes_of(SOUND[k])):
                late = SOUND[:k] + (value,) + SOUND[k + 1 :]
                wanted = self.first_wrong(late)
                if wanted is None:
                    self.same(Book(*late).book_now, late)
                else:
                    self.refused(wanted, Book, *late)
                    self.refused(wanted, Book, *late[: k + 1], *((None,) * (4 - k)) if wanted == name else late[k + 1 :])
        self.refused('machine', Book, None, None, None, None, None)
        self.refused('clocks', Book, LAMP, LONE, (('a', 'c', 1),), (), ())
        self.refused('looking', Book, LAMP, LONE, (), (('c', LIT, (), 'any', ()),), None)
        self.refused('looking', Book, LAMP, LONE, (), (('a', ('dim',), (), 'any', ()),), ())
        self.refused('waking', Book, LAMP, LONE, (), (), (('c', 1),))
        self.refused('waking', Book, LAMP, LONE, (), (), [('a', 1)])

    def first_wrong(self, late):
        machine, trust, clocks, looking, waking = late
        if not plain.is_machine(machine):
            return 'machine'
        if not plain.is_trust(trust):
            return 'trust'
        for k, name in ((2, 'clocks'), (3, 'looking'), (4, 'waking')):
            bare = (machine, trust, clocks, looking if k > 2 else (), waking if k > 3 else ())
            if not plain.is_book(bare):
                return name
        return None

    def test_adding_and_taking(self):
        """By turns, on objects that share a book: each stays as it was."""
        random = Random(155)
        for _ in range(12):
            ones = [Book(*drawn_book(random))]
            told = [ones[0].book_now]
            for _ in range(14):
                k = random.randrange(len(ones))
                book = told[k]
                houses = tuple(plain.houses_of(book[1]))
                rule = random.choice([some_looking(random, book[0], houses), (random.choice(houses), random.randint(1, 4)), ('zz', 1), None, ('a', True)])
                fault = random.choice([('looking', random.randrange(4)), ('waking', random.randrange(3)), ('odds', ('a', 0), ('a', 0)), 0])
                if random.random() < 0.6:
                    call, word, part, wanted = (lambda one, part: one + part), 'rule', rule, is_rule(book, rule)
                    maker = with_rule
                else:
                    call, word, part = (lambda one, part: one - part), 'fault', fault
                    wanted = fault in [('looking', at) for at in range(len(book[3]))] + [('waking', at) for at in range(len(book[4]))]
                    maker = without_rule
                if wanted:
                    late = call(ones[k], part)
                    self.assertIs(type(late), Book)
                    self.same(late.book_now, maker(book, part))
                    ones.append(late)
                    told.append(late.book_now)
                else:
                    self.refused(word, call, ones[k], part)
                self.same([one.book_now for one in ones], told)

    def test_in_place(self):
        """Without operators of its own for it, one += rule names a new Book."""
        one = Book(*SOUND)
        first = one
        one += ('b', 3)
        self.same([first.book_now, one.book_now], [SOUND, with_rule(SOUND, ('b', 3))])
        one -= ('waking', 1)
        self.same(one.book_now, SOUND)

    def test_in(self):
        one = Book(*SOUND)
        for rule in SOUND[3] + SOUND[4]:
            self.same(rule in one, True)
            for thing in changes_of(rule):
                wanted = plain.told(thing) in [plain.told(late) for late in SOUND[3] + SOUND[4]]
                self.same(thing in one, wanted)
        for thing in ODD + [SOUND, one, ('a', True), ['a', 1], ('a', 1, 1)]:
            self.same(thing in one, thing == ('a', 1) and type(thing) is tuple and thing[1] is not True)
        self.same([('a', 1) in Book(*WRONG), True in Book(*WRONG)], [False, False])

    def test_equal(self):
        one = Book(*SOUND)
        for other in (Book(*SOUND), one, one + ('b', 1) - ('waking', 1)):
            self.same([one == other, other == one, one != other], [True, True, False])
        for other in [SOUND, None, 1, (), 'a', [SOUND], Book(*WRONG), one + ('a', 1), Book(*set_in(SOUND, (0,), FLIP)), Book(*set_in(SOUND, (2,), ()))] + ODD:
            self.same([one == other, one != other], [False, True])

    def test_faults_of_what_it_has_not(self):
        for fault in [None, (), ('looking', 0), ('waking', 0), ('odds', ('a', 0), ('b', 0)), ('looking', 9)] + ODD:
            self.refused('fault', Book(*SOUND).run, fault)
        self.same(Book(TURN, CALM, NEAR, (), ()).faults_now, ())
