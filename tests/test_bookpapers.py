"""Points 34, 38, 78, 79: papers on a book, and their checker."""

from itertools import islice

from actasone.bookchecker import lets_book
from actasone.bookpapers import book_paper
from actasone.counting import partings_of
from actasone.whole import is_as_one
from tests import plainruns, plainwhole
from tests.cases import Case
from tests.drawnbooks import SPAN, drawn_books
from tests.samples import (
    ALL, BOOK, CALM, FOUR, LAMP, LATE, LIT, LONE, NEAR, ODD, PAST, PLAIN, ROUND, SOUND, SPARE, THREE, TORN, WRONG, changes_of, full_trusts,
    large_machines, part_at, paths_in, set_in,
)

# Looks that move and that do not, houses with and without rules of looking, needs of several sets.
FULL = (
    SPARE, FOUR, (('a', 'b', 1), ('b', 'a', 2)),
    (('a', LIT, ('b', 'd'), 9, (('a', 9), ('b', 3), ('c', 77))), ('b', LIT, ('a', 'b', 'c'), 'any', ()), ('d', LIT, ('a', 'b', 'c', 'd'), 'any', ())),
    (('c', 1), ('c', 2)),
)
BOTH = (ROUND, CALM, NEAR, (('a', ('day',), (), 'any', ()), ('b', ('day', 'hour'), ('a',), 3, (('c', 5),)), ('c', ('hour',), ('a', 'b'), 0, ())), ())
COUNTS = (PAST, CALM, (), (('a', ('new', 'old'), ('a', 'c'), 'any', ()),), (('a', 2), ('b', 1), ('a', 4)))


def is_run_of(book, thing):
    return type(plainruns.lets_run(book, thing)) is list


def is_one(book, run):
    return plainruns.rows_of_run(book, run, 0) != []


def verdict(book, thing):
    return plainwhole.book_paper(book, thing, SPAN if book[2] != FULL[2] else 12, is_run_of, is_one)


class Papers(Case):
    def test_example(self):
        self.same([lets_book(SOUND, book_paper(SOUND)), lets_book(WRONG, book_paper(WRONG)), book_paper(WRONG)[0]], [True, False, 'run'])
        self.wrong('kept', -1, lets_book, SOUND, ('one', (), ((),), (), ()))

    def test_drawn(self):
        seen = {True: 0, False: 0}
        for book in drawn_books(150, seed=130):
            one = plainwhole.faults(book, 0, SPAN) == ()
            paper = book_paper(book)
            self.same(paper[0], 'one' if one else 'run')
            self.same(lets_book(book, paper), one)
            if one or len(paper[1][2]) < 30:
                self.same(verdict(book, paper), [one])
            seen[one] += 1
        self.assertGreater(min(seen.values()), 40)

    def test_fixed(self):
        for book in (FULL, BOTH, COUNTS, SOUND):
            self.same(is_as_one(book), True)
            paper = book_paper(book)
            self.same(paper[0], 'one')
            self.same(verdict(book, paper), [True])
            self.same(lets_book(book, paper), True)
        for book in (BOOK, ALL, TORN, WRONG, (LAMP, LONE, (), (), ())):
            self.same(lets_book(book, book_paper(book)), False)

    def test_large(self):
        lots = tuple(sorted(tuple(name for name in 'abcde' if name != left) for left in 'abcd'))
        ring = tuple((house, lots, ((),)) for house in 'abcde')
        for machine, trust in zip(large_machines(4, 131), [ring] + list(full_trusts(3, 132))):
            book = (machine, trust, (), tuple((house, machine[1], tuple('abcde'), 'any', ()) for house in 'abcde'), ())
            self.same(lets_book(book, book_paper(book)), is_as_one(book))
        self.same(is_as_one((machine, ring, (), book[3], ())), True)


class Checker(Case):
    def judge(self, book, thing):
        return self.judged(verdict(book, thing), lets_book, book, thing)

    def test_changes(self):
        """Papers changed in one place at any depth."""
        seen = set()
        for book in (BOTH, COUNTS, SOUND):
            paper = book_paper(book)
            changes = list(changes_of(paper))
            step = max(1, len(changes) // 1500)
            for thing in changes[::step]:
                seen.add(self.judge(book, thing))
        self.assertEqual(seen, {'let', 'shape', 'kept', 'still', 'met', 'partings'})

    def test_changes_of_needs(self):
        paper = book_paper(FULL)
        for k in range(3):
            for thing in islice(changes_of(paper[3][k]), 0, None, 3):
                self.judge(FULL, set_in(paper, (3, k), thing))

    def test_two_at_once(self):
        """The first one is told: by the word, then by the place."""
        for book in (BOTH, COUNTS):
            paper = book_paper(book)
            paths = [path for path in paths_in(paper) if len(path) == 2 and path[0] > 0]
            for one in paths[:4] + paths[-6:]:
                for other in paths[-7:]:
                    if one < other:
                        self.judge(book, set_in(set_in(paper, other, None), one, [None]))
            for word in range(1, 5):
                for more in range(word, 5):
                    late = set_in(paper, (more,), paper[more] + ((),))
                    self.judge(book, set_in(late, (word,), paper[word] + ((),)))
                    self.judge(book, set_in(late, (word, 0), None))

    def test_not_told(self):
        more = [('one',), ('one', (), (), ()), ('one', (), (), (), [], ()), ('one', [], (), (), ()), ('run',), ('run', PLAIN, ()), ('Run', PLAIN)]
        for thing in ODD + more + [['run', PLAIN]]:
            for book in (BOOK, SOUND):
                self.judge(book, thing)
        for k in range(1, 5):
            paper = book_paper(SOUND)
            for other in (list(paper[k]), None, 'abc', 0, {}):
                self.wrong('shape', -1, lets_book, SOUND, set_in(paper, (k,), other))

    def test_runs(self):
        self.same(lets_book(BOOK, ('run', PLAIN)), False)
        self.wrong('one', -1, lets_book, BOOK, ('run', LATE))
        self.wrong('one', -1, lets_book, SOUND, ('run', ((), (0, 0, 0), ())))
        for run in ODD + [PLAIN[:2], list(PLAIN), PLAIN[:2] + (PLAIN[2][1:],), PLAIN[:2] + (PLAIN[2] + (('wake', 9, 'a'),),), ((), (0, 9, 0), ())]:
            self.wrong('run', -1, lets_book, BOOK, ('run', run))
        for thing in islice(changes_of(('run', PLAIN)), 0, None, 9):
            self.judge(BOOK, thing)

    def test_kept(self):
        """One out of each of the greatest falls in which both are safe, of both lots."""
        paper = book_paper(FULL)
        self.same(len(paper[1]), 16 * 17 // 2)
        for k in (0, 1, 60, 135):
            for names in (
                ('a', 'b'), ('a', 'd'), ('d', 'd'), ('b', 'c'), ('a', 'b', 'c'), ('b', 'b', 'c'), ('a', 'c', 'c'), ('a', 'a', 'd'), ('a', 'b', 'd'), ('e',), (),
            ):
                self.judge(FULL, set_in(paper, (1, k), names))
        # No fall is one in which both are safe but (): any house of both lots is kept.
        pairs = book_paper(SOUND)
        for names in (('a',), ('b',), ('c',), ('a', 'b'), ()):
            self.judge(SOUND, set_in(pairs, (1, 0), names))

    def test_still(self):
        """BOTH: day never moves; what holds it still may be more than what is reached."""
        paper = book_paper(BOTH)
        self.same(paper[2], ((True, True, True), ()))
        spare = (SPARE[0], LIT, SPARE[2], ((4,), (9,), (4,), (4,)))
        book = (spare, CALM, (), (('a', LIT, (), 'any', ()),), ())
        self.same(is_as_one(book), False)
        still = (set_in(spare, (3, 1), (4,)), THREE, (), (('a', LIT, (), 'any', ()),), ())
        calm = set_in(still, (1,), CALM)
        paper = book_paper(calm)
        for bools in (
            (True, True, True, False), (True, True, True, True), (False, True, True, True), (True, False, True, False), (True, True, True), (True, True, 1, False),
            (True, True, True, None), (1, 1, 1, 0), (), [], (True, True, True, False, False), (False,) * 4, (True, True, True, 0),
            (False, False, False, True),
        ):
            self.judge(calm, set_in(paper, (2, 0), bools))
        other = set_in(calm, (0, 3, 3), (9,))
        for bools in ((True, True, True, False), (True, True, True, True)):
            self.judge(other, set_in(book_paper(other), (2, 0), bools))

    def test_met(self):
        """Without bools for its looks a rule has to meet its needs; with them there is nothing to tell."""
        paper = book_paper(BOTH)
        self.same([paper[3][0], len(paper[3][1])], [(), 3])
        self.judge(BOTH, set_in(paper, (3, 0), ('a', 'b', 'c')))
        self.judge(BOTH, set_in(paper, (2, 0), ()))
        self.judge(BOTH, set_in(set_in(paper, (2, 0), ()), (3, 0), ('a', 'a', 'b')))
        self.judge(BOTH, set_in(paper, (3, 1), ()))
        for names in (('a', 'a', 'c'), ('a', 'c', 'c'), ('b', 'a', 'c'), ('a', 'a', 'b'), ('a', 'a'), ('a', 'a', 'c', 'c'), ('a', 'a', None), ['a', 'a', 'c']):
            self.judge(BOTH, set_in(paper, (3, 1), names))
        sure = set_in(BOTH, (3, 0, 2), ('a', 'b'))
        late = set_in(book_paper(sure), (2, 0), ())
        self.judge(sure, set_in(late, (3, 0), ('a', 'a', 'b')))
        self.same(verdict(sure, set_in(late, (3, 0), ('a', 'a', 'b'))), [True])

    def test_partings(self):
        paper = book_paper(COUNTS)
        looks = ('new', 'old')
        self.same([len(part) for part in paper[4]], [3, 0, 5])
        self.judge(COUNTS, set_in(paper, (4, 0), partings_of(PAST, looks, 2)))
        self.same(verdict(COUNTS, set_in(paper, (4, 0), partings_of(PAST, looks, 2))), [True])
        fine = (7, 1, 99, 0)
        self.assertEqual(verdict(COUNTS, set_in(paper, (4, 0), (fine, (5, 0, 5, 0), (3, 3, 3, 3)))), [True])
        for partings in (
            (fine, (5, 0, 5, 0), (3, 3, 3, 3)), (fine, fine, (3, 3, 3, 3)), (fine, (5, 0, 5, 0), fine), ((0, 0, 1, 2), (5, 0, 5, 0), (3, 3, 3, 3)),
            (fine, (5, 5, 0, 0), (3, 3, 3, 3)), (fine, (5, 0, 5, 0)), (fine, (5, 0, 5, 0), (3, 3, 3, 3), (3, 3, 3, 3)), (), ((3, 3, 3, 3),) * 3,
            (fine, (5, 0, 5, 0), (3, 3, 3)), (fine, (5, 0, 5, False), (3, 3, 3, 3)), (fine, [5, 0, 5, 0], (3, 3, 3, 3)), (fine, (5, 0, 5, 0), (3, 3, 3, -3)),
            (fine, (5, 0, 5, 0), (0, 0, False, 0)), [fine, (5, 0, 5, 0), (3, 3, 3, 3)], None,
        ):
            self.judge(COUNTS, set_in(paper, (4, 0), partings))
        for partings in ((), ((0, 0, 0, 0),), ((0, 0, 0, 0), (0, 0, 0, 0)), [], None):
            self.judge(COUNTS, set_in(paper, (4, 1), partings))

    def test_the_first_parting_is_one_of_its_own(self):
        """Letters make of its classes classes of it, not only like answers."""
        late = (('go', 'stay'), LIT, ((1, 0), (2, 1), (2, 2)), ((0,), (0,), (1,)))
        book = (late, CALM, (), (('a', LIT, ('a', 'b'), 'any', ()),), (('a', 2),))
        self.same(is_as_one(book), False)
        paper = ('one', book_paper(book[:4] + ((),))[1], ((),), ((('a', 'a', 'b')),), (((0, 0, 2), (0, 0, 0), (0, 0, 0)),))
        self.judge(book, paper)
        self.same(verdict(book, paper), ('partings', 0))

        # What parts the states later is not in the first parting, and even so the last one is one class.
        gone = (('go', 'stay'), LIT, ((2, 2), (3, 3), (2, 2), (2, 2)), ((0,), (0,), (0,), (1,)))
        book = (gone, CALM, (), (('a', LIT, ('a', 'b'), 'any', ()),), (('a', 2),))
        self.same(is_as_one(book), True)
        for first, wanted in (((0, 0, 0, 1), ('partings', 0)), ((0, 2, 0, 1), [True])):
            paper = set_in(book_paper(book), (4, 0), (first, (0, 1, 0, 0), (0, 0, 0, 0)))
            self.same(verdict(book, paper), wanted)
            self.judge(book, paper)

    def test_the_book(self):
        for book in ODD + [BOOK[:4], list(BOOK)]:
            self.refused('book', lets_book, book, book_paper(SOUND))
            self.refused('book', book_paper, book)
        self.same(lets_book(thing=book_paper(book=SOUND), book=SOUND), True)

    def test_depths(self):
        """Each part of a paper of one book with another kind of value in its place."""
        paper = book_paper(SOUND)
        for path in paths_in(paper):
            for other in ([part_at(paper, path)], (part_at(paper, path),), 'a', ('a',), (True,), 1):
                self.judge(SOUND, set_in(paper, path, other))
