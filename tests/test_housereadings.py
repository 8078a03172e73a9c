"""Reading texts: points 20 and 21."""

from mumhouse.errors import InvalidText
from mumhouse.expressions import is_condition
from mumhouse.housereadings import expression_read, house_read, world_read
from mumhouse.housetexts import expression_text, house_text, world_text
from tests.samples import PAY, RIGHT_NAMES, SIXTY, SUM, TOP, TRIO, Case
from tests.test_expressions import C, N, NAME, WORDS, Maker, made

# What is read as an integer, and what is not.
INTEGERS = ('0', '1', '-1', '10', '-10', '7', str(SIXTY), str(-SIXTY), '1' + '0' * 59)
NO_INTEGERS = ('', '-', '+1', '00', '01', '-0', '-00', '-01', '--1', '1-', '1.0', ' ', '1\n', '\n1', '\n', 'x', 'True', '1_0',
               '0x1', '1,2', '1;2', str(10 ** 60), str(-10 ** 60), '0' * 61, '1e3')
NO_NAMES = ('', 'Ann', 'a1', '`', '{', 'abcdefghi', 'ann\n', '\nann', '1', '-', 'a,b')


class ReadingCase(Case):
    def wrong(self, function, text, field, line=0):
        self.raises(InvalidText, [line, field], function, text)


class ExpressionTest(ReadingCase):
    def test_example(self):
        self.wrong(expression_read, '+ 1 = 0 0', 2)

    def test_integers(self):
        for text in INTEGERS:
            self.same(expression_read(text), int(text))
            self.same(expression_read(f'+ {text} {text}'), ('+', int(text), int(text)))
        for text in NO_INTEGERS:
            if text not in ('-', ' '):
                self.wrong(expression_read, text, 0)
                self.wrong(expression_read, f'* {text} 1', 1)
                self.wrong(expression_read, f'* 1 {text}', 2)
        self.wrong(expression_read, '-', 1)
        self.wrong(expression_read, ' ', 0)

    def test_digits_of_other_alphabets(self):
        for text in ('\u00b2', '\u0661', '1\u0661', '-\u0661'):
            self.wrong(expression_read, text, 0)

    def test_each_word(self):
        for word in WORDS:
            self.same(expression_read(expression_text(made(word))), made(word))

    def test_words_missing_and_too_many(self):
        for word in WORDS:
            words = expression_text(made(word)).split(' ')
            for many in range(1, len(words)):
                self.wrong(expression_read, ' '.join(words[:many]), many)
                self.wrong(expression_read, ' '.join(words[:many]) + ' ', many)
                self.wrong(expression_read, ' '.join([*words[:many], '', *words[many:]]), many)
            for more in ('0', '', 'x', 'not', '\n'):
                self.wrong(expression_read, ' '.join([*words, more]), len(words))
            self.wrong(expression_read, ' ' + ' '.join(words), 0)
        self.wrong(expression_read, '', 0)
        self.wrong(expression_read, '1 ', 1)
        self.wrong(expression_read, '1 2', 1)

    def test_kinds(self):
        for word, (own, kinds) in WORDS.items():
            for k, due in enumerate(kinds):
                before = expression_text(made(word)).split(' ')[0]
                for each in kinds[:k]:
                    before += {N: ' 7', C: ' = 0 0', NAME: ' ann'}[each]
                field = len(before.split(' '))
                for other in {N: ('=', '<', 'and', 'or', 'not', 'ann', 'Sum', '', '01'),
                              C: ('0', 'of', 'my', '+', 'sum', 'if', 'count', 'ann', ''), NAME: NO_NAMES}[due]:
                    self.wrong(expression_read, f'{before} {other}', field)
                    self.wrong(expression_read, f'{before} {other} 0 0', field)

    def test_unknown_words(self):
        for text in ('plus 1 2', 'OF ann pay', '> 1 2', '== 1 2', 'ann', 'true', '+1', 'of\n ann pay', '(', 'a b'):
            self.wrong(expression_read, text, 0)

    def test_names(self):
        for name in RIGHT_NAMES:
            self.same(expression_read(f'+ my {name} of {name} {name}'), ('+', ('my', name), ('of', name, name)))
        for name in NO_NAMES:
            self.wrong(expression_read, f'my {name}', 1)
            self.wrong(expression_read, f'of {name} pay', 1)
            self.wrong(expression_read, f'of ann {name}', 2)

    def test_newlines(self):
        for text, field in (('1\n', 0), ('\n1', 0), ('\n', 0), ('+ 1\n2', 1), ('+ 1 2\n', 2), ('my pay\n', 1), ('+\n1 2', 0),
                            ('= 0 0\n', 2), ('= 0 0 \n', 3)):
            self.wrong(expression_read, text, field)

    def test_depth(self):
        for outer in (1, 29, 30):
            self.same(expression_read('not ' * (outer - 1) + '= 1 2'), nested(outer - 1, ('=', 1, 2)))
            self.same(expression_read('+ 1 ' * outer + 'my pay'), right_nested(outer, ('my', 'pay')))
            self.same(expression_read('+ 1 ' * outer + '5'), right_nested(outer, 5))
        # The part within thirty others is possible, that within thirty-one is not; the words before it are.
        self.wrong(expression_read, '+ 1 ' * 31 + '5', 61)
        self.wrong(expression_read, '+ ' * 31 + '1' + ' 1' * 31, 31)
        self.wrong(expression_read, 'not ' * 30 + '= 1 2', 31)
        self.wrong(expression_read, 'not ' * 31 + '= 1 2', 31)
        self.wrong(expression_read, '+ 1 ' * 30 + '+ 1 2', 61)
        self.wrong(expression_read, '+ 1 ' * 31, 61)
        self.wrong(expression_read, '+ 1 ' * 31 + 'my pay', 61)
        self.same(expression_read('not ' * 29 + '= 1 2'), nested(29, ('=', 1, 2)))
        self.same(expression_read('not ' * 27 + '= 1 sum 1 = 1 1'), nested(27, ('=', 1, ('sum', 1, ('=', 1, 1)))))
        self.wrong(expression_read, 'not ' * 28 + '= 1 sum 1 = 1 1', 33)
        # What stands beside a deep part begins anew.
        self.same(expression_read('+ ' + '+ 1 ' * 29 + '5 ' + '+ 1 ' * 29 + '5'),
                  ('+', right_nested(29, 5), right_nested(29, 5)))
        self.wrong(expression_read, '+ 1 ' * 400 + '5', 61)

    def test_written_and_read(self):
        maker = Maker(4)
        for _ in range(300):
            thing = maker.expression(maker.random.choice((N, C)), maker.random.randrange(5))
            text = expression_text(thing)
            self.same(expression_read(text=text), thing)
            self.same(expression_text(expression_read(text)), text)
            words = text.split(' ')
            k = maker.random.randrange(len(words))
            self.wrong(expression_read, ' '.join([*words[:k], '?', *words[k + 1:]]), k)


def nested(times, core):
    for _ in range(times):
        core = ('not', core)
    return core


def right_nested(times, core):
    for _ in range(times):
        core = ('+', 1, core)
    return core


class HouseReadTest(ReadingCase):
    def wrong_at(self, text, line, field):
        self.raises(InvalidText, [line, field], house_read, text)

    def test_example(self):
        self.wrong_at('people bob,ann\nfield pay 0 2', 0, 1)

    def test_written_and_read(self):
        for house in (PAY, TRIO, (('a',), (('z', -SIXTY, SIXTY),), (TOP[0], ('<', SUM, 2), ('=', ('my', 'q'), 1))),
                      (('and', 'my'), (('field', 0, 0), ('people', 0, 0), ('rule', 0, 0)), ())):
            text = house_text(house)
            self.same(house_read(text=text), house)
            self.same(house_text(house_read(text)), text)

    def test_what_is_not_checked(self):
        self.same(house_read('people a\nfield z 2 1\nfield b 0 -5\nfield b 0 0\nrule = my q of x y'),
                  (('a',), (('z', 2, 1), ('b', 0, -5), ('b', 0, 0)), (('=', ('my', 'q'), ('of', 'x', 'y')),)))

    def test_people(self):
        rest = '\nfield pay 0 2'
        self.same(house_read('people my,people' + rest)[0], ('my', 'people'))
        for text in ('', ' people ann', 'People ann', 'field pay 0 2', 'rule = 0 0', 'ann', '\npeople ann', 'world 0'):
            self.wrong_at(text + rest, 0, 0)
        self.wrong_at('', 0, 0)
        self.wrong_at('people' + rest, 0, 1)
        for names in ('', 'bob,ann', 'ann,ann', 'ann,', ',ann', 'ann,,bob', 'ann;bob', '-', 'Ann', 'abcdefghi', 'ann,1', 'a.b'):
            self.wrong_at(f'people {names}' + rest, 0, 1)
        self.wrong_at('people ann bob' + rest, 0, 2)
        self.wrong_at('people ann ' + rest, 0, 2)
        self.wrong_at('people  ann' + rest, 0, 1)

    def test_fields(self):
        for line in ('', 'rule = 0 0', 'people ann', 'Field pay 0 2', 'pay 0 2', ' field pay 0 2'):
            self.wrong_at('people ann\n' + line, 1, 0)
        for line, field in (('field', 1), ('field ', 1), ('field Pay 0 2', 1), ('field 0 2', 1), ('field pay', 2),
                            ('field pay x 2', 2), ('field pay 00 2', 2), ('field pay -0 2', 2), ('field pay 0', 3),
                            ('field pay 0 ', 3), ('field pay 0 x', 3), ('field pay 0 01', 3), ('field pay 0 2 3', 4),
                            ('field pay 0 2 ', 4), ('field  pay 0 2', 1), (f'field pay {10 ** 60} 2', 2),
                            (f'field pay 0 {-10 ** 60}', 3), ('field pay 0,1 2', 2)):
            self.wrong_at('people ann\n' + line, 1, field)
            self.wrong_at('people ann\nfield a 0 0\n' + line + '\nrule', 2, field)

    def test_rules(self):
        start = 'people ann\nfield pay 0 2\n'
        for line, field in (('rule', 1), ('rule ', 1), ('rule 0', 1), ('rule my pay', 1), ('rule = 0', 3), ('rule = 0 x', 3),
                            ('rule = 0 0 0', 4), ('rule = 0 0 ', 4), ('rule  = 0 0', 1), ('rule rule', 1), ('rules = 0 0', 0),
                            ('rule not 1', 2), ('', 0), ('people ann', 0), ('world 0', 0)):
            self.wrong_at(start + line, 2, field)
            self.wrong_at(start + 'rule = 0 0\n' + line, 3, field)
        self.wrong_at(start + 'rule = 0 0\nfield q 0 1', 3, 0)
        self.wrong_at(start + 'rule = 0 0\nrule < 0', 3, 3)

    def test_lines(self):
        self.wrong_at('people ann', 1, 0)
        self.wrong_at('people ann\n', 1, 0)
        self.wrong_at('people ann\nfield pay 0 2\n', 2, 0)
        self.wrong_at('people ann\n\nfield pay 0 2', 1, 0)
        self.wrong_at('people ann\nfield pay 0 2\n\nrule = 0 0', 2, 0)
        self.wrong_at('\n', 0, 0)
        self.wrong_at('people Ann\nfield', 0, 1)

    def test_depth(self):
        start = 'people ann\nfield pay 0 2\nrule '
        self.same(house_read(start + 'not ' * 29 + '= 1 2')[2], (nested(29, ('=', 1, 2)),))
        self.wrong_at(start + 'not ' * 30 + '= 1 2', 2, 32)


class WorldReadTest(ReadingCase):
    def test_written_and_read(self):
        for world in (((0,),), ((1,), (2,)), ((0, -1), (2, 3)), ((SIXTY, -SIXTY), (0, 0)), ((1,), (1, 2), (3, 4, 5))):
            text = world_text(world)
            self.same(world_read(text=text), world)
            self.same(world_text(world_read(text)), text)

    def test_wrong_words(self):
        for text, field in (('', 0), (' ', 0), (' 0', 0), ('0 ', 1), ('0  1', 1), ('0 1 ', 2), ('\n', 0), ('0\n1', 0),
                            ('0 1\n', 1), ('0\n', 0), ('x', 0), ('0 1 x', 2), ('0,', 0), (',0', 0), ('0,,1', 0), ('0;1', 0),
                            ('0 1,', 1), ('0,1 2,-0', 1), ('-', 0), ('0 -', 1)):
            self.wrong(world_read, text, field)
        for text in NO_INTEGERS:
            if text not in ('1,2', ' '):
                self.wrong(world_read, text, 0)
                self.wrong(world_read, f'0 1,{text}', 1)
                self.wrong(world_read, f'0 {text},1 0', 1)
        for text in INTEGERS:
            self.same(world_read(f'{text} {text},{text}'), ((int(text),), (int(text), int(text))))

    def test_conditions_are_read_as_such(self):
        self.same([is_condition(expression_read(text)) for text in ('= 0 0', 'not = 0 0', '+ 0 0')], [True, True, False])
