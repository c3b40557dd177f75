"""Points 67, 68: the longest end and the least untils with which a rule is right."""

from actasone.bestends import least_untils, longest_end
from actasone.needs import least_lots, needs_of
from actasone.rulelooks import rule_is_right
from tests import plain, plainwhole
from tests import plainclocks as plainly
from tests.cases import Case
from tests.drawnbooks import SPAN, drawn_books
from tests.samples import MIXED, BOOK, CALM, LAMP, LIT, NEAR, ODD, ROUND, THREE, set_in

FAR = 50


def ages_of(book):
    return (0,) if book[4] else (0, 1, 2)


def is_right(book, rule, age):
    return plainwhole.lacks(book, rule, age, SPAN) == ()


def with_end(book, rule, end):
    return set_in(book, (3, rule, 3), end)


def with_until(book, rule, k, until):
    return set_in(book, (3, rule, 4, k, 1), until)


def promised(many=120, seed=80):
    for book in drawn_books(many, seed=seed):
        for rule, entry in enumerate(book[3]):
            if entry[4]:
                yield book, rule


class Ends(Case):
    def test_example(self):
        self.same(
            [longest_end(BOOK, 2), longest_end(BOOK, 3), least_untils(BOOK, 2), least_untils(BOOK, 3), longest_end(MIXED, 0)],
            [10, 9, (12, 12), (12, None), 10],
        )

    def test_drawn(self):
        """The greatest of all ends near the untils and gaps, or one far away, with which it is right."""
        seen = {'any': 0, None: 0, 'end': 0}
        for book, rule in promised():
            for age in ages_of(book):
                end = longest_end(book, rule, age=age)
                right = [late for late in [-FAR] + list(range(-9, 10)) + [FAR] if self.right(with_end(book, rule, late), rule, age)]
                self.same(end, None if not right else 'any' if FAR in right else max(right))
                seen['end' if isinstance(end, int) else end] += 1
        self.assertGreater(min(seen.values()), 20)

    def right(self, book, rule, age):
        """Told by gaps here, as ends far away are beyond the settings that are gone through."""
        if not plainwhole.moves(book, rule, age):
            return True
        house, _, lot, end, promises = book[3][rule]
        return all(plainly.catches(book[2], house, end, part, lot, promises) for part in plain.needs_of(book[1], house))

    def test_by_settings(self):
        """Just at the longest end the rule is right, over all settings, and just behind it not."""
        many = 0
        for book, rule in promised(60, 81):
            end = longest_end(book, rule)
            if isinstance(end, int):
                self.assertTrue(is_right(with_end(book, rule, end), rule, 0))
                self.assertFalse(is_right(with_end(book, rule, end + 1), rule, 0))
                many += 1
        self.assertGreater(many, 5)

    def test_two_ways(self):
        """Both tellings of (W5), where a look moves past the age."""
        for book, rule in promised(120, 82):
            house, _, lot, _, promises = book[3][rule]
            if not plainwhole.moves(book, rule, 0):
                self.same(longest_end(book, rule), 'any')
                continue
            served = {name: until - gap for name, until in promises if (gap := plainly.gap_of(book[2], name, house)) != 'any'}
            by_needs = [max([served[name] for name in part if name in served], default=None) for part in needs_of(book[1], house) if not set(part) & set(lot)]
            wanted = None if None in by_needs else min(by_needs, default='any')
            self.same(longest_end(book, rule), wanted)
            by_lots = [[served.get(name) for name in part if name not in lot] for part in least_lots(book[1], house)]
            whole = [min(ends, default=FAR) for ends in by_lots if None not in ends]
            self.same(longest_end(book, rule), 'any' if FAR in whole else max(whole, default=None))

    def test_right_exactly_up_to_it(self):
        for book, rule in promised(120, 83):
            for age in ages_of(book):
                end = longest_end(book, rule, age=age)
                wanted = end == 'any' or end is not None and book[3][rule][3] <= end
                self.same(rule_is_right(book, rule, age=age), wanted)

    def test_any_and_none(self):
        far = (('b', 'a', 2), ('b', 'c', 0), ('c', 'a', 2), ('c', 'b', 0))
        for lot, promises, clocks, wanted in (
            (('a', 'b'), (('c', 0),), NEAR, 'any'), (('b', 'c'), (('b', -99),), (), 'any'), ((), (('b', 12), ('c', 12)), NEAR, 10),
            ((), (('b', 12),), NEAR, None), (('a',), (('b', 12),), NEAR, 10), ((), (('b', 12), ('c', 12)), (), None),
            ((), (('b', 12), ('c', 12)), far, 10), (('c',), (('a', 3),), (), 3), (('c',), (('a', -999999), ('b', -999999)), NEAR, -999999),
        ):
            book = (LAMP, CALM, clocks, (('a', LIT, lot, 0, promises),), ())
            self.same(longest_end(book, 0), wanted)

    def test_no_need_that_can_be_met(self):
        """The need () is caught by nobody."""
        trust = (('a', (('a',),), (('c',),)), ('b', (('c',),), (('c',),)), ('c', (('c',),), ((),)))
        book = (LAMP, trust, (), (('a', LIT, ('a', 'b', 'c'), 5, (('a', 9),)),), ())
        self.same([longest_end(book, 0), least_untils(book, 0)], [None, (None,)])

    def test_ages(self):
        book = (ROUND, CALM, (), (('a', ('hour',), (), 5, (('b', 1),)),), ())
        self.same([longest_end(book, 0, age=age) for age in (0, 1, 2, 6)], [None, None, 'any', 'any'])
        self.same([least_untils(book, 0, age=age) for age in (0, 1, 2, 6)], [(None,), (None,), ('any',), ('any',)])


class Untils(Case):
    def test_drawn(self):
        seen = {'any': 0, None: 0, 'until': 0}
        for book, rule in promised(110, 84):
            for age in ages_of(book):
                untils = least_untils(book, rule, age=age)
                self.assertEqual(len(untils), len(book[3][rule][4]))
                for k, until in enumerate(untils):
                    tried = [-FAR] + list(range(-9, 10)) + [FAR]
                    right = [late for late in tried if Ends.right(self, with_until(book, rule, k, late), rule, age)]
                    self.same(until, 'any' if -FAR in right else min(right, default=None))
                    seen['until' if isinstance(until, int) else until] += 1
        self.assertGreater(min(seen.values()), 20)

    def test_consequence(self):
        for book, rule in promised(120, 85):
            untils = least_untils(book, rule)
            for k, until in enumerate(untils):
                if until == 'any' or until is not None and until <= book[3][rule][4][k][1]:
                    self.same(rule_is_right(book, rule), True)
                elif until is not None:
                    self.same(rule_is_right(book, rule), False)
                    self.same(rule_is_right(with_until(book, rule, k, until), rule), True)
                    self.same(rule_is_right(with_until(book, rule, k, until - 1), rule), False)

    def test_a_house_of_the_lot_too(self):
        """Its promise does nothing that the lot does not."""
        book = (LAMP, CALM, NEAR, (('a', LIT, ('a', 'b'), 5, (('a', -9), ('b', -9))),), ())
        self.same(least_untils(book, 0), ('any', 'any'))
        book = (LAMP, CALM, NEAR, (('a', LIT, ('a',), 5, (('a', -9), ('b', -9), ('c', -9))),), ())
        self.same(least_untils(book, 0), (None, 7, 7))

    def test_one_that_others_make_needless(self):
        """In THREE each need is one house: each promise has to last."""
        promises = (('a', 5), ('b', 7), ('c', 6))
        book = (LAMP, THREE, NEAR, (('a', LIT, (), 5, promises),), ())
        self.same(least_untils(book, 0), (None, None, 7))
        self.same(least_untils(set_in(book, (3, 0, 4, 2, 1), 7), 0), (5, 7, 7))
        # In CALM each need is two houses: a and b are enough.
        self.same(least_untils((LAMP, CALM) + book[2:], 0), (5, 7, 'any'))
        self.same(least_untils((LAMP, CALM, NEAR, (('a', LIT, (), 5, (('a', 5), ('b', 7), ('c', 7))),), ()), 0), ('any', 'any', 'any'))


class Refused(Case):
    def test_rules_without_promises(self):
        """Ahead of the age, and behind the book."""
        free = BOOK[:4] + ((),)
        for call in (longest_end, least_untils):
            for rule in (0, 1):
                for book in (BOOK, free):
                    self.refused('rule', call, book, rule)
                    self.refused('rule', call, book, rule, age=-1)
            self.refused('book', call, None, 0, age=-1)
            self.refused('age', call, BOOK, 2, age=1)
            self.refused('age', call, free, 2, age=True)
            for rule in [value for value in ODD if not plain.is_number(value) or value not in (2, 3)] + [4]:
                self.refused('rule', call, BOOK, rule)
        self.same(longest_end(age=0, rule=2, book=BOOK), 10)
