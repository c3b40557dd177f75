"""Points 21, 22: machines and books as texts, and read."""

from random import Random

from actasone.errors import InvalidText
from actasone.kinds import is_book, is_machine
from actasone.readings import book_read, machine_read
from actasone.texts import book_text, machine_text
from tests.cases import Case
from tests.samples import (
    BOOK, CALM, DIAL, DIGITS60, FOUR, LAMP, LONE, ROUND, SMALL, SPARE, THREE, WIDE, large_machines,
    small_machines, some_of, trusts,
)

LAMP_TEXT = 'letters off on\nlooks lit\nstate 0 1 : 0\nstate 0 1 : 1'
HOUSES = 'house a : a,b a,c b,c : -\nhouse b : a,b a,c b,c : -\nhouse c : a,b a,c b,c : -'
CALM_TEXT = LAMP_TEXT + '\n' + HOUSES
FEARED = LAMP_TEXT + '\nhouse a : a b : - b b,c c\nhouse b : b : a,c\nhouse c : c : -'
LONG = '9' * 60
LONGER = '9' * 61


def books(many=40):
    random = Random(12)
    machines = list(small_machines(many))
    for machine, trust in zip(machines, trusts(many)):
        houses = [entry[0] for entry in trust]
        clocks = tuple((p, q, random.randint(5, 9)) for p in houses for q in houses if p != q)
        looking = []
        for _ in range(random.randint(0, 4)):
            looks = some_of(random, machine[1]) or machine[1]
            promises = tuple((house, random.randint(-9, 9)) for house in some_of(random, houses))
            end = random.randint(-99, 99) if promises or random.random() < 0.5 else 'any'
            looking.append((random.choice(houses), looks, some_of(random, houses), end, promises))
        waking = tuple((random.choice(houses), random.randint(1, 8)) for _ in range(random.randint(0, 3)))
        yield (machine, trust, clocks if random.random() < 0.5 else (), tuple(looking), waking)


class Texts(Case):
    def test_machine(self):
        self.same(machine_text(LAMP), LAMP_TEXT)
        self.same(
            machine_text(DIAL),
            'letters down up\nlooks high low\nstate 0 1 : 0 1\nstate 0 2 : 0 0\nstate 1 2 : 1 0',
        )

    def test_book(self):
        lines = book_text(SMALL).split('\n')
        self.same(
            lines[3:5] + lines[7:],
            ['state 0 1 : 1', 'house a : a,b a,c b,c : -', 'gap a b 2', 'looking a lit - 10 b:12 c:-1', 'waking a 3'],
        )
        self.same('\n'.join(lines[:7]), CALM_TEXT)
        self.same(book_text((LAMP, CALM, (), (), ())), CALM_TEXT)
        self.same(
            book_text((DIAL, LONE, (('a', 'b', -1),), (('b', ('high', 'low'), ('a', 'b'), 'any', ()),), ())).split('\n')[5:],
            ['house a : b : b', 'house b : b : -', 'gap a b -1', 'looking b high,low a,b any'],
        )
        self.same(book_text(BOOK).split('\n')[13:15], ['looking a lit a,b any', 'looking b lit c any'])
        self.same(book_text((LAMP, FOUR, (), (), ())).split('\n')[4], 'house a : a,b,c a,b,d a,c,d b,c,d : b c d')

    def test_great_integers(self):
        machine = (('a', 'b'), ('k',), ((0, 0),), ((10 ** 99,),))
        self.same(machine_text(machine).split('\n')[2], 'state 0 0 : 1' + '0' * 99)
        self.unread(2, 4, machine_read, machine_text(machine))


class ThereAndBack(Case):
    def test_machines(self):
        for machine in [LAMP, DIAL, SPARE, ROUND, WIDE] + list(small_machines(40)) + list(large_machines(5)):
            self.same(machine_read(machine_text(machine)), machine)

    def test_books(self):
        for book in [BOOK, SMALL, (LAMP, THREE, (), (), ())] + list(books()):
            self.assertTrue(is_book(book))
            self.same(book_read(book_text(book)), book)

    def test_sixty_digits(self):
        machine = (('a', 'b'), ('k',), ((0, 0),), ((DIGITS60,),))
        self.same(machine_read(machine_text(machine)), machine)
        clocks = (('a', 'b', -DIGITS60), ('b', 'a', DIGITS60))
        looking = (('a', ('lit',), (), -DIGITS60, (('b', DIGITS60), ('c', -DIGITS60))),)
        book = (LAMP, CALM, clocks, looking, (('a', DIGITS60),))
        self.same(book_read(book_text(book)), book)

    def test_many_states(self):
        many = 30
        machine = (('a', 'b'), ('k',), tuple((s, many - 1) for s in range(many)), ((0,),) * many)
        self.same(machine_read(machine_text(machine)), machine)

    def test_texts_written_back(self):
        """Whatever is read of a text with a word changed is written as that very text."""
        words = ['', '-', ':', 'a', 'b', 'c', 'd', 'any', '0', '1', '2', '-1', '00', '+1', 'a,b', 'b,a', 'b:1', 'state', 'lit']
        for text in (LAMP_TEXT, book_text(SMALL), FEARED):
            lines = [line.split(' ') for line in text.split('\n')]
            read, write = (machine_read, machine_text) if text == LAMP_TEXT else (book_read, book_text)
            let = 0
            for k, line in enumerate(lines):
                for j in range(len(line) + 1):
                    for word in words:
                        for late in (line[:j] + [word] + line[j + 1 :], line[:j] + [word] + line[j:], line[:j] + line[j + 1 :]):
                            told = '\n'.join(' '.join(row) for row in lines[:k] + [late] + lines[k + 1 :])
                            try:
                                value = read(told)
                            except InvalidText as error:
                                self.assertLessEqual(error.line, len(lines))
                                continue
                            let += 1
                            self.assertTrue((is_machine if read is machine_read else is_book)(value))
                            self.same(write(value), told)
            self.assertGreater(let, 5)


class Machines(Case):
    def no(self, line, field, text):
        self.unread(line, field, machine_read, text)

    def test_example(self):
        self.no(2, 2, 'letters off on\nlooks lit\nstate 0 1 : 0')

    def test_lines_missing(self):
        self.no(0, 0, '')
        self.no(1, 0, 'letters off on')
        self.no(2, 0, 'letters off on\nlooks lit')
        self.no(1, 0, 'letters off on\n')
        self.no(2, 0, 'letters off on\nlooks lit\n')

    def test_lines_that_cannot_come(self):
        self.no(4, 0, LAMP_TEXT + '\n')
        self.no(4, 0, LAMP_TEXT + '\nlooks lit')
        self.no(4, 0, LAMP_TEXT + '\nhouse a : a : -')
        self.no(4, 0, LAMP_TEXT + '\n\nstate 0 1 : 1')
        self.no(0, 0, '\n' + LAMP_TEXT)
        self.no(0, 0, 'looks lit\nletters off on\nstate 0 0 : 0')
        self.no(0, 0, 'state 0 0 : 0')
        self.no(0, 0, 'Letters off on')
        self.no(0, 0, 'letter off on')
        self.no(0, 0, ' letters off on')
        self.no(1, 0, 'letters off on\nletters off on\nlooks lit')
        self.no(1, 0, 'letters off on\nstate 0 0 : 0')
        self.no(2, 0, 'letters off on\nlooks lit\nlooks lit\nstate 0 0 : 0')
        self.no(3, 0, 'letters off on\nlooks lit\nstate 0 0 : 0\nletters off on')
        self.no(3, 0, 'letters off on\nlooks lit\nstate 0 0 : 0\nstates 0 0 : 0')
        self.no(3, 0, 'letters off on\nlooks lit\nstate 0 0 : 0\ngap a b 1')

    def test_letters(self):
        for words, field in (
            ('', 1), (' ', 1), (' a', 2), (' a ', 2), ('  a b', 1), (' b a', 2), (' a a', 2), (' a any', 2), (' any b', 1),
            (' A b', 1), (' a b1', 2), (' a abcdefghi', 2), (' a b ', 3), (' a b  c', 3), (' a b b', 3), (' a b a', 3),
            (' a,b c', 1), (' a -', 2), (' a 1', 2), (' a : b', 2), (' b a 1', 2), (' A 1', 1),
        ):
            self.no(0, field, 'letters' + words + '\nlooks lit\nstate 0 0 : 0')
        self.same(machine_read('letters a abcdefgh\nlooks l\nstate 0 0 : 0')[0], ('a', 'abcdefgh'))

    def test_looks(self):
        for words, field in (
            ('', 1), (' ', 1), ('  a', 1), (' b a', 2), (' a a', 2), (' any', 1), (' A', 1), (' a ', 2), (' a,b', 1), (' -', 1),
            (' abcdefghi', 1), (' a b a', 3),
        ):
            self.no(1, field, 'letters a b\nlooks' + words + '\nstate 0 0 : 0')
        self.same(machine_read('letters a b\nlooks a\nstate 0 0 : 0')[1], ('a',))

    def test_states(self):
        for words, field in (
            ('', 1), (' 0', 2), (' 0 1', 3), (' 0 1 :', 4), (' 0 1 : 5', 5), (' 0 1 : 5 6 7', 6), (' 0 1 : 5 6 ', 6),
            (' 2 0 : 5 6', 1), (' 0 2 : 5 6', 2), (' 0 -1 : 5 6', 2), (' 00 1 : 5 6', 1), (' 0 01 : 5 6', 2), (' a 1 : 5 6', 1),
            (' 0 : 1 5 6', 2), (' 0 1 5 6', 3), (' 0 1 0 : 5 6', 3), (' 0 1 :: 5 6', 3), (' 0 1  5 6', 3), ('  0 1 : 5 6', 1),
            (' 0 1 : -5 6', 4), (' 0 1 : 5 06', 5), (' 0 1 : 5 +6', 5), (' 0 1 : : 6', 4), (' 0 1 : -0 6', 4), (' 0 1 :  6', 4),
            (' 0 1 : 5 -', 5), (' 0 1 : 5 6.0', 5), (' 0 1 : 5 ' + LONGER, 5), (' 0 1 : 5 1_0', 5), (' 9 1 x 5 y', 1),
            (' 0 1 x 5 y', 3), (' 0 1 : 5 1e3', 5), (' 0 1 : 5 --6', 5),
        ):
            self.no(2, field, 'letters a b\nlooks k l\nstate' + words + '\nstate 0 0 : 0 0')
            self.no(3, field, 'letters a b\nlooks k l\nstate 0 0 : 0 0\nstate' + words)
        read = machine_read('letters a b\nlooks k l\nstate 0 1 : 5 0\nstate 1 0 : 0 ' + LONG)
        self.same(read[2:], (((0, 1), (1, 0)), ((5, 0), (0, int(LONG)))))

    def test_how_many_states(self):
        """All lines that begin with the word state count, possible or not."""
        begin = 'letters a b\nlooks k\n'
        self.no(2, 2, begin + 'state 0 1 : 0')
        self.no(3, 0, begin + 'state 0 1 : 0\n\nstate')
        self.no(3, 1, begin + 'state 0 1 : 0\nstate')
        self.no(3, 0, begin + 'state 0 1 : 0\nhouse a : a : -\nstate x')
        self.no(2, 2, begin + 'state 0 1 : 0\nhouse a : a : -\nstates x')
        self.no(2, 2, begin + 'state 0 2 : 0\nstate 0 x')

    def test_the_first_line_and_word(self):
        self.no(0, 2, 'letters a A B\nlooks A')
        self.no(1, 1, 'letters a b\nlooks A\nstate x')
        self.no(2, 1, 'letters a b\nlooks k\nstate x y : z\nlooks')
        self.no(0, 1, 'letters\nhouse')


class Books(Case):
    def no(self, line, field, text):
        self.unread(line, field, book_read, text)

    def rest(self, field, *lines):
        """The last one of the lines behind those of the houses cannot stand from this word on."""
        self.no(6 + len(lines), field, '\n'.join((CALM_TEXT,) + lines))

    def test_lines_missing(self):
        self.no(0, 0, '')
        self.no(1, 0, 'letters off on')
        self.no(2, 0, 'letters off on\nlooks lit')
        self.no(4, 0, LAMP_TEXT)
        self.no(4, 0, LAMP_TEXT + '\n')
        self.no(7, 0, CALM_TEXT + '\n')
        self.no(0, 0, HOUSES)

    def test_the_machine(self):
        self.no(2, 2, 'letters off on\nlooks lit\nstate 0 1 : 0\n' + HOUSES)
        self.no(0, 1, CALM_TEXT.replace('off', 'any'))
        self.no(3, 5, CALM_TEXT.replace('state 0 1 : 1', 'state 0 1 : 1 1'))

    def test_lines_that_cannot_come(self):
        for line in ('gap a b 2', 'looking a lit - 10', 'waking a 3', 'looks lit', '', 'houses', 'letters off on', ':'):
            self.no(4, 0, LAMP_TEXT + '\n' + line + '\n' + HOUSES)
        for line in ('state 0 1 : 1', 'looks lit', 'letters off on', '', 'gaps'):
            self.rest(0, line)
            self.rest(0, 'gap a b 2', line)
            self.rest(0, 'looking a lit - 10', line)
            self.rest(0, 'waking a 3', line)
        self.rest(0, 'gap a b 2', 'house d : a : -')
        self.rest(0, 'looking a lit - 10', 'gap a b 2')
        self.rest(0, 'looking a lit - 10', 'house d : a : -')
        self.rest(0, 'waking a 3', 'gap a b 2')
        self.rest(0, 'waking a 3', 'looking a lit - 10')
        self.rest(0, 'waking a 3', 'house d : a : -')

    def test_lines_that_can_come(self):
        for late in (
            (), ('gap a b 2',), ('looking a lit - 10',), ('waking a 3',), ('gap a b 2', 'waking a 3'),
            ('gap a b 2', 'looking a lit - 10', 'looking a lit - 10', 'waking a 3', 'waking a 3'),
        ):
            self.assertTrue(is_book(book_read('\n'.join((CALM_TEXT,) + late))))

    def house(self, field, words):
        """The line of the second one of three houses, which the others do not name."""
        self.no(5, field, LAMP_TEXT + '\nhouse a : a : -\nhouse' + words + '\nhouse c : c : -')

    def test_houses(self):
        for words, field in (
            ('', 1), (' ', 1), ('  : a : -', 1), (' B : a : -', 1), (' any : a : -', 1), (' a : a : -', 1), (' bcdefghij : a', 1),
            (' b', 2), (' b a : -', 2), (' b  a : -', 2), (' b :', 3), (' b : : -', 3), (' b : - : -', 3), (' b :  a : -', 3),
            (' b : a', 4), (' b : a -', 4), (' b : a  : -', 4), (' b : a a : -', 4), (' b : b a : -', 4), (' b : b,a : -', 3),
            (' b : a,a : -', 3), (' b : a, : -', 3), (' b : ,a : -', 3), (' b : a,,b : -', 3), (' b : d : -', 3), (' b : a,d : -', 3),
            (' b : a : ', 5), (' b : a :', 5), (' b : a : b', 5), (' b : a : a,b', 5), (' b : a : a,b,c', 5), (' b : a : d', 5),
            (' b : a : - ', 6), (' b : a : - -', 6), (' b : a : a -', 6), (' b : a : c a', 6), (' b : a : a a', 6),
            (' b : a : c,a', 5), (' b : a : a : c', 6), (' b : a b c : a ', 8), (' b : A : -', 3), (' b : a,-', 3),
            (' b : any : -', 3), (' b ; a : -', 2), (' b : a c b : -', 5), (' b : c a,b', 4), (' b : a : a,- c', 5), (' b : - a : -', 3),
        ):
            self.house(field, words)
        self.no(6, 1, CALM_TEXT.replace('house c', 'house b') + '\nhouse c : a : -')
        self.no(6, 1, CALM_TEXT.replace('house c', 'house a') + '\nhouse c : a : -')

    def test_houses_that_can_stand(self):
        read = book_read(FEARED)
        self.same(
            read[1],
            (
                ('a', (('a',), ('b',)), ((), ('b',), ('b', 'c'), ('c',))),
                ('b', (('b',),), (('a', 'c'),)),
                ('c', (('c',),), ((),)),
            ),
        )

    def test_houses_in_whichever_line(self):
        """Houses are the second words of all lines that begin with the word house."""
        self.no(4, 3, LAMP_TEXT + '\nhouse a : b : -')
        self.no(5, 2, LAMP_TEXT + '\nhouse a : b : -\nhouse b')
        self.no(5, 1, LAMP_TEXT + '\nhouse b : a : a\nhouse a : a : -')
        self.no(6, 0, LAMP_TEXT + '\nhouse a : b : -\nwaking b 1\nhouse b : a : -')
        self.no(4, 3, LAMP_TEXT + '\nhouse a : b : -\nhouses b : a : -')
        self.no(6, 0, LAMP_TEXT + '\nhouse a : a : -\ngap a b 1\nhouse b : b : -')
        self.no(5, 2, LAMP_TEXT + '\nhouse a : a : -\ngap a b 1')

    def test_a_house_that_is_no_name(self):
        """It cannot stand in its own line, nor in any line ahead."""
        self.no(4, 3, LAMP_TEXT + '\nhouse a : any : -\nhouse any : a : -')
        self.no(4, 3, LAMP_TEXT + '\nhouse a : a,bbbbbbbbb : -\nhouse bbbbbbbbb : a : -')
        self.no(4, 3, LAMP_TEXT + '\nhouse a : ,a : -\nhouse  : a : -')
        self.no(4, 3, LAMP_TEXT + '\nhouse a : : c : -\nhouse : a,c c : - a')
        self.no(4, 5, LAMP_TEXT + '\nhouse a : a : a1\nhouse a1 : a : -')
        self.no(4, 3, LAMP_TEXT + '\nhouse a : -,a : -\nhouse - : a : -')
        self.no(5, 1, LAMP_TEXT + '\nhouse a : a : -\nhouse A : a : -')
        self.no(5, 1, LAMP_TEXT + '\nhouse a : a : -\nhouse : : a : -')

    def test_a_house_that_is_no_name_in_the_lines_of_rules(self):
        for word in ('B', 'any', 'bbbbbbbbb', 'b1', ':', 'b,c', ''):
            behind = '\nhouse ' + word + ' : a : -'
            for line, field in (
                ('gap a ' + word + ' 2', 2), ('gap ' + word + ' a 2', 1), ('looking ' + word + ' lit - any', 1),
                ('looking a lit a,' + word + ' any', 3), ('looking a lit - 10 ' + word + ':12', 5),
                ('looking a lit - 10 a:9 ' + word + ':12', 6), ('waking ' + word + ' 1', 1),
            ):
                if word != 'b,c' or 'lit a,' not in line:
                    self.no(7, field, CALM_TEXT + '\n' + line + behind)
        self.no(7, 3, CALM_TEXT + '\nlooking a lit B any\nhouse B : a : -')
        self.no(7, 5, CALM_TEXT + '\nlooking a lit - 10 b:c:12\nhouse b:c : a : -')

    def test_a_name_of_a_later_line_is_a_house_in_the_lines_of_rules(self):
        for line in ('gap a d 2', 'looking d lit - any', 'looking a lit a,d any', 'looking a lit - 10 d:12', 'waking d 1'):
            self.no(8, 0, CALM_TEXT + '\n' + line + '\nhouse d : a : -')

    def test_gaps(self):
        for words, field in (
            ('', 1), (' ', 1), (' d b 1', 1), (' A b 1', 1), (' a', 2), (' a a 1', 2), (' a d 1', 2), (' a  1', 2), (' a b', 3),
            (' a b ', 3), (' a b x', 3), (' a b any', 3), (' a b 01', 3), (' a b -0', 3), (' a b +1', 3), (' a b 1 ', 4),
            (' a b 1 1', 4), (' a b ' + LONGER, 3), (' a b -' + LONGER, 3), (' a b -', 3), (' a,b c 1', 1), (' - b 1', 1),
            (' a b 1.5', 3), (' a b --1', 3), (' a b 1-', 3), (' a b -01', 3), (' a b 00', 3),
        ):
            self.rest(field, 'gap' + words)
        for late, field in (('a b 3', 2), ('a c 1', 3), ('b a 1', 2), ('b b 1', 2), ('b c', 3), ('a a 1', 2)):
            first = 'gap b c 9' if late[0] == 'b' and field == 2 else 'gap a b 9'
            if field == 2:
                self.rest(2, first, 'gap ' + late)
        self.rest(2, 'gap b c 1', 'gap b c 1')
        self.rest(2, 'gap b c 1', 'gap a b x')
        self.rest(3, 'gap a b 1', 'gap b c')
        self.rest(2, 'gap a b 9', 'gap b c 9', 'gap b a 9')
        self.rest(2, 'gap a c 9', 'gap c a 9', 'gap b a 9')
        self.same(book_read(CALM_TEXT + '\ngap a b -' + LONG)[2], (('a', 'b', -int(LONG)),))
        self.same(book_read(CALM_TEXT + '\ngap a b 0\ngap b a 0\ngap c a 7\ngap c b 7')[2][1:3], (('b', 'a', 0), ('c', 'a', 7)))

    def test_gaps_that_are_no_table(self):
        self.no(7, 0, CALM_TEXT + '\ngap a b 1\ngap b a -2')
        self.no(7, 0, CALM_TEXT + '\ngap a b 1\ngap b c 2')
        self.no(7, 0, CALM_TEXT + '\ngap a b 1\ngap a c 4\ngap b c 2\nlooking a lit - 1\nwaking a 1')
        self.no(9, 1, CALM_TEXT + '\ngap a b 1\ngap b a -2\nwaking d 1')
        self.no(9, 0, CALM_TEXT + '\ngap a b 1\ngap b a -2\n')
        self.same(len(book_read(CALM_TEXT + '\ngap a b 1\ngap a c 3\ngap b c 2')[2]), 3)
        self.same(len(book_read(CALM_TEXT + '\ngap a b 1\ngap b a -1')[2]), 2)

    def test_rules_of_looking(self):
        for words, field in (
            ('', 1), (' ', 1), (' d lit - 1', 1), (' a', 2), (' a ', 2), (' a - - 1', 2), (' a dim - 1', 2), (' a lit,lit - 1', 2),
            (' a LIT - 1', 2), (' a lit', 3), (' a lit  1', 3), (' a lit d 1', 3), (' a lit b,a 1', 3), (' a lit a,a 1', 3),
            (' a lit 1', 3), (' a lit -', 4), (' a lit - ', 4), (' a lit - x', 4), (' a lit - -', 4), (' a lit - 01', 4),
            (' a lit - -0', 4), (' a lit - Any', 4), (' a lit - ' + LONGER, 4), (' a lit - any b:1', 5), (' a lit - any ', 5),
            (' a lit - 1 ', 5), (' a lit - 1 b', 5), (' a lit - 1 b:', 5), (' a lit - 1 :1', 5), (' a lit - 1 b:1:2', 5),
            (' a lit - 1 d:1', 5), (' a lit - 1 b:x', 5), (' a lit - 1 b:any', 5), (' a lit - 1 b:01', 5), (' a lit - 1 b:-0', 5),
            (' a lit - 1 b:' + LONGER, 5), (' a lit - 1 b:1 b:2', 6), (' a lit - 1 c:1 b:2', 6), (' a lit - 1 a:1 c:1 b:2', 7), (' a lit - 1 b:1 ', 6),
            (' a lit - 1 b : 1', 5), (' a lit - 1 b:1,c:2', 5), (' a lit - 1 a:1 b:2 c', 7), (' a lit - x b', 4), (' a lit - 1 b:+1', 5),
        ):
            self.rest(field, 'looking' + words)
        read = book_read(CALM_TEXT + '\nlooking c lit a,b,c -5 a:-1 c:' + LONG)
        self.same(read[3], (('c', ('lit',), ('a', 'b', 'c'), -5, (('a', -1), ('c', int(LONG)))),))

    def test_sets_of_looks(self):
        text = machine_text(DIAL) + '\nhouse a : a : -\nlooking a '
        for word in ('high,low', 'high', 'low'):
            self.same(book_read(text + word + ' - any')[3][0][1], tuple(word.split(',')))
        for word in ('low,high', 'high,high', 'high,', ',low', 'high,,low', 'high,mid', '-', 'high,low,low', 'up', 'high;low'):
            self.no(6, 2, text + word + ' - any')

    def test_rules_of_waking(self):
        for words, field in (
            ('', 1), (' ', 1), (' d 1', 1), (' a', 2), (' a ', 2), (' a 0', 2), (' a -1', 2), (' a x', 2), (' a any', 2), (' a 01', 2),
            (' a 1 ', 3), (' a 1 1', 3), (' a ' + LONGER, 2), (' 1 a', 1), (' a,b 1', 1), (' a 1.0', 2),
        ):
            self.rest(field, 'waking' + words)
            self.rest(field, 'waking a 2', 'waking' + words)
        self.same(book_read(CALM_TEXT + '\nwaking a ' + LONG + '\nwaking a 1')[4], (('a', int(LONG)), ('a', 1)))

    def test_the_first_line_and_word(self):
        self.no(4, 2, CALM_TEXT.replace('house a :', 'house a ;').replace('house b', 'house B'))
        self.rest(1, 'looking d - x')
        self.no(7, 1, CALM_TEXT + '\nlooking d - x\nwaking')
        self.no(0, 1, '\n'.join(('letters A',) + tuple(CALM_TEXT.split('\n')[1:])))


class Left(Case):
    def test_each_word_left_out_of_the_whole(self):
        """A text without its last word ends too early, in its last line."""
        text = book_text(SMALL)
        lines = text.split('\n')
        for k, line in enumerate(lines):
            late = lines[:k] + [line.rpartition(' ')[0]]
            words = len(line.split(' ')) - 1
            told = '\n'.join(late)
            if line.startswith('house'):
                told = '\n'.join(late + lines[k + 1 : 7])
            if line.startswith('state'):
                told = '\n'.join(late + lines[k + 1 :])
            if line.startswith('looking'):
                book_read(told)
            else:
                self.unread(k, words, book_read, told)

    def test_each_line_twice(self):
        lines = book_text(SMALL).split('\n')
        for k, line in enumerate(lines):
            late = '\n'.join(lines[: k + 1] + lines[k:])
            if line.startswith('state') or line.startswith('looking') or line.startswith('waking'):
                self.assertTrue(is_book(book_read(late)))
            else:
                field = {'letters': 0, 'looks': 0, 'house': 1, 'gap': 2}[line.split(' ')[0]]
                self.unread(k + 1, field, book_read, late)
