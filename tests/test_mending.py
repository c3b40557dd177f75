"""Points 36, 67, 80 to 82: what of a book can be kept."""

from actasone.bestends import longest_end
from actasone.mending import an_ask_for, kept_rules, least_changes, with_longest_ends
from actasone.odds import without_pairs
from actasone.rulelooks import rule_is_right
from actasone.whole import faults_of, is_as_one
from tests import plain, plainwhole
from tests.cases import Case
from tests.drawnbooks import SPAN, drawn_books
from tests.samples import (
    ALL, BOOK, CALM, FOUR, LAMP, LIT, LONE, MIXED, NEAR, ODD, PAST, ROUND, SOUND, SPARE, THREE, TORN, TURN, WRONG, full_trusts, large_machines,
    set_in, trusts,
)


def kept(book):
    """The rules that are in no fault, told slowly."""
    faults = plainwhole.faults(book, 0, SPAN)
    return book[:3] + tuple(
        tuple(rule for k, rule in enumerate(book[at]) if (word, k) not in faults) for at, word in ((3, 'looking'), (4, 'waking'))
    )


class Kept(Case):
    def test_example(self):
        self.same(
            [kept_rules(WRONG)[3], [rule[3] for rule in with_longest_ends(WRONG)[3]], len(an_ask_for(WRONG, 'b', ('lit',))[2]), least_changes(SOUND)[0]],
            [(), ['any', 9], 2, ()],
        )

    def test_drawn(self):
        seen = {True: 0, False: 0}
        for book in drawn_books(160, seed=140):
            if plain.all_odds(book[1]):
                self.refused('book', kept_rules, book)
            else:
                late = kept_rules(book)
                self.same(late, kept(book))
                self.same(is_as_one(late), True)
                seen[late == book] += 1
        self.assertGreater(min(seen.values()), 20)

    def test_as_it_is_handed_in(self):
        """A rule of waking goes by all rules of looking of its house, also by those that go."""
        book = (PAST, CALM, (), (('a', ('old',), (), 'any', ()), ('a', ('new',), ('a', 'b'), 'any', ())), (('a', 1), ('a', 2), ('b', 1)))
        self.same(faults_of(book), (('looking', 0), ('waking', 0)))
        self.same(kept_rules(book), book[:3] + (book[3][1:], book[4][1:]))
        self.same(is_as_one(book[:3] + (book[3][1:], book[4])), True)

    def test_nothing_and_all(self):
        self.same(kept_rules(SOUND), SOUND)
        self.same(kept_rules(MIXED), set_in(MIXED, (4,), MIXED[4][1:]))
        for book in (TORN, ALL, (LAMP, LONE, (), (), ()), None, SOUND[:4]):
            self.refused('book', kept_rules, book)


class Changes(Case):
    def test_drawn(self):
        seen = {True: 0, False: 0, None: 0}
        books = list(drawn_books(70, seed=141)) + [(LAMP, trust, (), (('a', LIT, (), 'any', ()),) * 2, ()) for trust in trusts(25)]
        for book in books:
            few = plain.fewest_dropped(book[1])
            found = least_changes(book)
            if few is None:
                self.same(found, None)
                seen[None] += 1
                continue
            pairs, late = found
            self.assertEqual(len(pairs), few)
            self.same(plain.all_odds(late[1]), ())
            self.same(late[1], plain.without_pairs(book[1], pairs))
            self.same(late, kept(set_in(book, (1,), late[1])))
            self.same(is_as_one(late), True)
            self.same(late[1], without_pairs(book[1], pairs))
            seen[few == 0] += 1
        self.assertGreater(min(seen.values()), 8, seen)

    def test_rules_go_by_the_lots_that_are_left(self):
        """Without a lot of b its needs are fewer, so that a rule of a can stay."""
        trust = (('a', (('a', 'b'),), ((),)), ('b', (('a', 'b'), ('b', 'c'), ('c',)), ((),)), ('c', (('a', 'c'),), ((),)))
        book = (LAMP, trust, (), (('a', LIT, ('a',), 'any', ()), ('a', LIT, (), 'any', ())), ())
        self.assertEqual(plain.fewest_dropped(trust), 1)
        pairs, late = least_changes(book)
        self.same(pairs, (('b', 2),))
        self.same(late, kept(set_in(book, (1,), plain.without_pairs(trust, pairs))))

    def test_none(self):
        self.same(least_changes((LAMP, LONE, (), (('b', LIT, (), 'any', ()),), ())), None)
        self.same(least_changes(SOUND), ((), SOUND))
        self.same(least_changes(WRONG), ((), kept_rules(WRONG)))
        for book in (None, SOUND[:4], list(SOUND)):
            self.refused('book', least_changes, book)


class LongestEnds(Case):
    def test_drawn(self):
        seen = {'any': 0, None: 0, 'end': 0, 'bare': 0}
        for book in drawn_books(150, seed=142):
            late = with_longest_ends(book)
            self.same(late[:3] + late[4:], book[:3] + book[4:])
            for k, (rule, other) in enumerate(zip(book[3], late[3])):
                if rule[4] == ():
                    self.same(other, rule)
                    seen['bare'] += 1
                    continue
                end = longest_end(book, k)
                if isinstance(end, int):
                    self.same(other, rule[:3] + (end,) + rule[4:])
                    self.same(rule_is_right(late, k), True)
                else:
                    self.same(other, rule)
                    self.same(rule_is_right(late, k), end == 'any')
                seen['end' if isinstance(end, int) else end] += 1
        self.assertGreater(min(seen.values()), 20)

    def test_others_stay(self):
        for book in (SOUND, BOOK, TORN, MIXED):
            late = with_longest_ends(book)
            self.same([rule[3] for rule in late[3] if rule[4] == ()], [rule[3] for rule in book[3] if rule[4] == ()])
        self.same([rule[3] for rule in with_longest_ends(BOOK)[3]], ['any', 'any', 10, 9])
        for book in (None, SOUND[:4], list(SOUND)):
            self.refused('book', with_longest_ends, book)


class Ask(Case):
    def test_drawn(self):
        """Over all lots: as few houses as can be."""
        seen = set()
        trust = (('a', (('a',),), (('c',),)), ('b', (('c',),), (('c',),)), ('c', (('c',),), ((),)))
        for book in list(drawn_books(110, seed=143)) + [(TURN, trust, (), (), ())]:
            for house in plain.houses_of(book[1]):
                for looks in [book[0][1], book[0][1][:1], book[0][1][-1:]]:
                    rules = [(house, looks, lot, 'any', ()) for lot in plain.all_falls(book[1])]
                    right = [rule for rule in rules if plainwhole.lacks(book[:3] + ((rule,), ()), 0, 0, SPAN) == ()]
                    rule = an_ask_for(book, house, looks)
                    if not right:
                        self.same(rule, None)
                    else:
                        self.assertIn(plain.told(rule), [plain.told(told) for told in right])
                        self.assertEqual(len(rule[2]), min(len(told[2]) for told in right))
                    seen.add(None if rule is None else len(rule[2]))
        self.assertEqual(seen, {None, 0, 1, 2, 3})

    def test_looks(self):
        book = (ROUND, FOUR, (), (), (('a', 8),))
        self.same(an_ask_for(book, 'd', ('day',)), ('d', ('day',), (), 'any', ()))
        for looks in (('hour',), ('day', 'hour')):
            rule = an_ask_for(book, 'd', looks)
            self.same([rule[:2], len(rule[2]), rule[3:]], [('d', looks), 3, ('any', ())])
        self.same(an_ask_for((LAMP, THREE, NEAR, (), ()), 'b', LIT), ('b', LIT, ('a', 'b', 'c'), 'any', ()))
        trust = (('a', (('a',),), (('c',),)), ('b', (('c',),), (('c',),)), ('c', (('c',),), ((),)))
        self.same(an_ask_for((TURN, trust, (), (), ()), 'a', LIT), None)

    def test_large(self):
        for machine, trust in zip(large_machines(5, 144), full_trusts(5, 145)):
            for house in 'ae':
                rule = an_ask_for((machine, trust, (), (), ()), house, machine[1])
                lots = [lot for lot in plain.all_falls(trust) if plain.meets(plain.needs_of(trust, house), lot)]
                moves = any(plain.moves_past(machine, look, 0) for look in machine[1])
                self.same(None if rule is None else len(rule[2]), min([len(lot) for lot in lots], default=None) if moves else 0)

    def test_refused(self):
        for house in [value for value in ODD if value not in ('a', 'b', 'c') or type(value) is not str] + ['d', ['a']]:
            self.refused('house', an_ask_for, SOUND, house, None)
        for looks in [value for value in ODD if value != LIT] + [('lit', 'lit'), ['lit']]:
            self.refused('looks', an_ask_for, SOUND, 'a', looks)
        self.refused('book', an_ask_for, SOUND[:4], 'd', None)
        self.refused('looks', an_ask_for, (SPARE,) + SOUND[1:], 'a', ())
        self.same(an_ask_for(looks=LIT, house='a', book=SOUND), an_ask_for(SOUND, 'a', LIT))
