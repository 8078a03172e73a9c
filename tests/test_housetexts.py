"""Texts: point 19."""

from mumhouse.housereadings import house_read, world_read
from mumhouse.housetexts import expression_text, house_text, world_text
from tests.samples import ANN, PAY, SIXTY, SUM, TOP, TRIO, Case
from tests.test_expressions import ALWAYS, WORDS, made


class TextsTest(Case):
    def test_examples(self):
        self.same([expression_text(SUM), house_text(PAY), world_text(((0, -1), (2, 3)))],
                  ['sum my pay = 0 0', 'people ann,bob\nfield pay 0 2', '0,-1 2,3'])

    def test_integers(self):
        for number in (0, 7, -7, 10, -100, SIXTY, -SIXTY, 10 ** 100):
            self.same(expression_text(number), str(number))
            self.same(world_text(((number,), (number,))), f'{number} {number}')

    def test_each_word(self):
        written = {'of': 'of ann pay', 'my': 'my pay', 'if': 'if = 0 0 7 7', 'count': 'count = 0 0',
                   'sum': 'sum 7 = 0 0', 'not': 'not = 0 0', 'and': 'and = 0 0 = 0 0', 'or': 'or = 0 0 = 0 0'}
        for word in WORDS:
            self.same(expression_text(made(word)), written.get(word, f'{word} 7 7'))

    def test_nested(self):
        self.same(expression_text(('if', ('and', ALWAYS, ('not', TOP[0])), ('-', ANN, -3), SUM)),
                  'if and = 0 0 not = of ann pay 2 - of ann pay -3 sum my pay = 0 0')
        self.same(expression_text(('+', ('my', 'my'), ('of', 'of', 'and'))), '+ my my of of and')
        deep, text = 1, '1'
        for _ in range(2000):
            deep, text = ('+', deep, 1), f'+ {text} 1'
        self.same(expression_text(deep), text)

    def test_houses(self):
        self.same(house_text(TRIO), 'people ann,bob,cid\nfield age -1 1\nfield pay 0 2')
        self.same(house_text((('a',), (('z', -SIXTY, 0),), (TOP[0], ('<', SUM, 2)))),
                  f'people a\nfield z -{SIXTY} 0\nrule = of ann pay 2\nrule < sum my pay = 0 0 2')

    def test_what_the_readers_returned(self):
        text = 'people a,b\nfield z 2 1\nfield a 0 -1\nrule = my q 0'
        self.same(house_text(house_read(text)), text)
        self.same(world_text(world_read('1 2,-3 0,0,0')), '1 2,-3 0,0,0')

    def test_by_name(self):
        self.same([expression_text(expression=1), house_text(house=PAY), world_text(world=((1,),))],
                  ['1', 'people ann,bob\nfield pay 0 2', '1'])
