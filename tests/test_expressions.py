"""Expressions: points 4, 10 and 11."""

import random

from mumhouse.errors import UnfitExpression
from mumhouse.expressions import is_condition, is_number_expression, lets_ask, lets_statement, parts_of
from tests.samples import ANN, PAY, SIXTY, SUM, TOP, TRIO, WRONG_NAMES, Case

N, C, NAME = 'number', 'condition', 'name'
WORDS = {
    'of': (N, (NAME, NAME)), 'my': (N, (NAME,)), '+': (N, (N, N)), '-': (N, (N, N)), '*': (N, (N, N)),
    'least': (N, (N, N)), 'most': (N, (N, N)), 'if': (N, (C, N, N)), 'count': (N, (C,)), 'sum': (N, (N, C)),
    '=': (C, (N, N)), '<': (C, (N, N)), 'and': (C, (C, C)), 'or': (C, (C, C)), 'not': (C, (C,)),
}
ALWAYS = ('=', 0, 0)


def plain(kind):
    """The least thing of a kind; the names are those of the house PAY."""
    return {N: 7, C: ALWAYS}[kind]


def made(word, *changed):
    """A right part with this word; changed: pairs (index, thing) that stand there instead."""
    names = {'of': ['ann', 'pay'], 'my': ['pay']}
    part = [word, *(names[word] if word in names else [plain(kind) for kind in WORDS[word][1]])]
    for k, thing in changed:
        part[k] = thing
    return tuple(part)


def wrong_by_document(thing, kind, house, counted=False, path=()):
    """The path of the first wrong part, as point 11 says it, or None; house None: by form."""
    if isinstance(thing, int) and not isinstance(thing, bool):
        return None if kind == N else path
    if not isinstance(thing, tuple) or not thing or not isinstance(thing[0], str) or thing[0] not in WORDS:
        return path
    own, kinds = WORDS[thing[0]]
    if own != kind or len(thing) != len(kinds) + 1:
        return path
    for item, due in zip(thing[1:], kinds):
        if due == NAME:
            if not isinstance(item, str) or not 1 <= len(item) <= 8 or item.strip('abcdefghijklmnopqrstuvwxyz'):
                return path
    if house is not None:
        fields = [field[0] for field in house[1]]
        if thing[0] == 'of' and (thing[1] not in house[0] or thing[2] not in fields):
            return path
        if thing[0] == 'my' and (not counted or thing[1] not in fields):
            return path
    for k, due in enumerate(kinds):
        if due != NAME:
            wrong = wrong_by_document(thing[k + 1], due, house, counted or thing[0] in ('count', 'sum'), (*path, k + 1))
            if wrong is not None:
                return wrong
    return None


def parts_by_document(part, path=()):
    found = [(path, part)]
    if isinstance(part, tuple):
        for k, item in enumerate(part):
            if not isinstance(item, str):
                found.extend(parts_by_document(item, (*path, k)))
    return found


class Maker:
    """Makes expressions, the same ones in each run."""

    def __init__(self, seed):
        self.random = random.Random(seed)

    def expression(self, kind, depth, names=('ann', 'bob', 'pay', 'age')):
        if kind == NAME:
            return self.random.choice(names)
        if depth == 0:
            return self.random.choice((0, 1, -1, 5)) if kind == N else ALWAYS
        word = self.random.choice([word for word, (own, _) in WORDS.items() if own == kind])
        return (word, *[self.expression(due, depth - 1, names) for due in WORDS[word][1]])

    def damaged(self, thing):
        """The thing with something wrong put at one or two places (or something that is right by chance)."""
        for _ in range(self.random.choice((1, 2))):
            thing = self._put(thing)
        return thing

    def _put(self, thing):
        if isinstance(thing, tuple) and thing and self.random.random() < 0.75:
            k = self.random.randrange(len(thing))
            if self.random.random() < 0.15:
                return thing[:k] + thing[k + 1:]
            return thing[:k] + (self._put(thing[k]),) + thing[k + 1:]
        return self.random.choice((True, None, '', 'ann', 'zed', (), [], 3, ALWAYS, ('my', 'pay'), ('of', 'ann', 'pay'),
                                   ('=', 0), ('not', 1), ['+', 1, 1], ('+', 1, 1), 'of', ('of', 'ann'), ((), 1)))


class FormTest(Case):
    def number(self, thing, due):
        self.same(is_number_expression(thing), due)

    def condition(self, thing, due):
        self.same(is_condition(thing), due)

    def test_integers(self):
        for thing in (0, 1, -1, SIXTY, -SIXTY, 10 ** 80):
            self.number(thing, True)
            self.condition(thing, False)
        for thing in (True, False, None, '', '1', 'my', (), [], [1], (1,), ((),), (True,), ((0,),), ('',)):
            self.number(thing, False)
            self.condition(thing, False)

    def test_each_word_right(self):
        for word, (own, _) in WORDS.items():
            self.number(made(word), own == N)
            self.condition(made(word), own == C)

    def test_each_word_with_one_element_too_few_or_too_many(self):
        for word, (_, kinds) in WORDS.items():
            for thing in (made(word)[:-1], (*made(word), made(word)[-1]), (word,), list(made(word))):
                self.number(thing, False)
                self.condition(thing, False)

    def test_number_where_a_condition_stands_and_the_other_way_round(self):
        for word, (own, kinds) in WORDS.items():
            for k, due in enumerate(kinds):
                for thing, right in ((3, due == N), (ALWAYS, due == C), (True, False), (None, False), ('ann', due == NAME),
                                     (('of', 'zed', 'zed'), due == N), (('not', ALWAYS), due == C), ((), False)):
                    part = made(word, (k + 1, thing))
                    self.number(part, right and own == N)
                    self.condition(part, right and own == C)

    def test_names(self):
        for name in WRONG_NAMES:
            for thing in (('of', name, 'pay'), ('of', 'ann', name), ('my', name), ('+', 1, ('my', name))):
                self.number(thing, False)
        for thing in (('of', 'zed', 'zzz'), ('my', 'zzz'), ('of', 'my', 'of'), ('+', ('my', 'a'), ('my', 'abcdefgh'))):
            self.number(thing, True)

    def test_wrong_words(self):
        for word in ('', 'Of', 'sum ', 'plus', '==', '>', 'ann', '/', 0, True, None, (), ('of',), ['of']):
            for thing in ((word, 'ann', 'pay'), (word, 1, 2), (word, ALWAYS), (word, ALWAYS, ALWAYS), (word, 'pay')):
                self.number(thing, False)
                self.condition(thing, False)

    def test_my_anywhere(self):
        self.number(('my', 'pay'), True)
        self.condition(('<', ('my', 'pay'), ('count', ('=', ('my', 'pay'), 1))), True)

    def test_nested_deep(self):
        number, condition = 1, ALWAYS
        for _ in range(3000):
            number = ('+', number, 1)
            condition = ('not', condition)
        self.number(number, True)
        self.condition(condition, True)
        self.condition(number, False)
        self.number(('+', number, True), False)

    def test_by_name(self):
        self.same([is_number_expression(thing=1), is_condition(thing=1)], [True, False])

    def test_as_the_document_says(self):
        maker = Maker(1)
        for _ in range(1500):
            kind = maker.random.choice((N, C))
            thing = maker.expression(kind, maker.random.randrange(4))
            self.number(thing, kind == N)
            self.condition(thing, kind == C)
            thing = maker.damaged(thing)
            self.number(thing, wrong_by_document(thing, N, None) is None)
            self.condition(thing, wrong_by_document(thing, C, None) is None)


class PartsTest(Case):
    def test_example(self):
        self.same(parts_of(ANN), (((), ('of', 'ann', 'pay')),))
        self.same([path for path, _ in parts_of(SUM)], [(), (1,), (2,), (2, 1), (2, 2)])
        self.same([part for _, part in parts_of(SUM)], [SUM, ('my', 'pay'), ALWAYS, 0, 0])

    def test_integers_and_my_outside(self):
        for number in (0, -3, SIXTY, 10 ** 90):
            self.same(parts_of(number), (((), number),))
            self.same(parts_of(('not', ('=', number, ('my', 'zzz')))),
                      (((), ('not', ('=', number, ('my', 'zzz')))), ((1,), ('=', number, ('my', 'zzz'))),
                       ((1, 1), number), ((1, 2), ('my', 'zzz'))))

    def test_each_word(self):
        for word in WORDS:
            self.same(parts_of(made(word)), tuple(parts_by_document(made(word))))
        self.same([path for path, _ in parts_of(('if', ALWAYS, 1, ('of', 'a', 'b')))],
                  [(), (1,), (1, 1), (1, 2), (2,), (3,)])

    def test_made_ones(self):
        maker = Maker(2)
        for _ in range(300):
            thing = maker.expression(maker.random.choice((N, C)), maker.random.randrange(5))
            self.same(parts_of(expression=thing), tuple(parts_by_document(thing)))

    def test_the_very_parts(self):
        for path, part in parts_of(SUM):
            reached = SUM
            for k in path:
                reached = reached[k]
            self.assertIs(part, reached)


class FitTest(Case):
    def ask(self, thing, path, house=PAY):
        self.raises(UnfitExpression, [path], lets_ask, house, thing)

    def statement(self, thing, path, house=PAY):
        self.raises(UnfitExpression, [path], lets_statement, house, thing)

    def test_examples(self):
        self.same([lets_ask(PAY, SUM), lets_statement(PAY, TOP[0])], [5, 3])
        self.ask(('+', ('of', 'ann', 'pay'), ('my', 'pay')), (2,))

    def test_kind(self):
        self.same([lets_ask(PAY, 3), lets_ask(PAY, -SIXTY), lets_statement(PAY, ALWAYS)], [1, 1, 3])
        for thing in (True, None, '', (), [], ALWAYS, 'of', ['of', 'ann', 'pay']):
            self.ask(thing, ())
        for thing in (True, False, None, '', (), [], 0, 1, SUM, list(ALWAYS)):
            self.statement(thing, ())

    def test_each_word(self):
        for word, (own, kinds) in WORDS.items():
            part = made(word)
            many = len(parts_by_document(part))
            if word == 'my':
                self.ask(part, ())
            elif own == N:
                self.same(lets_ask(PAY, part), many)
                self.statement(part, ())
            else:
                self.same(lets_statement(PAY, part), many)
                self.ask(part, ())

    def test_names_of_the_house(self):
        for thing in (('of', 'cid', 'pay'), ('of', 'pay', 'pay'), ('of', 'ann', 'age'), ('of', 'ann', 'ann'),
                      ('of', 'ann', 'PAY'), ('of', 'ann', 0), ('of', ('ann',), 'pay')):
            self.ask(thing, ())
            self.ask(('-', 1, thing), (2,))
            self.statement(('=', thing, 1), (1,))
        self.same([lets_ask(TRIO, ('of', 'cid', 'age')), lets_ask(TRIO, ('of', 'ann', 'pay'))], [1, 1])
        self.ask(('of', 'dan', 'age'), (), TRIO)

    def test_my_outside_and_inside(self):
        self.ask(('my', 'pay'), ())
        self.ask(('count', ('=', ('my', 'age'), 0)), (1, 1))
        self.ask(('sum', ('my', 'age'), ALWAYS), (1,))
        self.ask(('sum', ('my', 'ann'), ALWAYS), (1,))
        self.statement(('=', ('my', 'pay'), 0), (1,))
        self.statement(('and', ALWAYS, ('<', 0, ('my', 'pay'))), (2, 2))
        self.statement(('and', ('=', SUM, 1), ('<', 0, ('my', 'pay'))), (2, 2))
        self.ask(('if', ('=', ('my', 'pay'), 0), 1, 2), (1, 1))
        self.ask(('+', ('count', ('=', ('my', 'pay'), 0)), ('my', 'pay')), (2,))
        self.same(lets_ask(PAY, ('sum', ('if', ('=', ('my', 'pay'), 0), 1, ('my', 'pay')), ('<', ('my', 'pay'), 2))), 10)
        self.same(lets_ask(PAY, ('count', ('=', ('my', 'pay'), ('count', ('<', ('my', 'pay'), 1))))), 7)
        self.same(lets_statement(PAY, ('not', ('=', ('count', ('not', ('=', 0, ('my', 'pay')))), 1))), 8)

    def test_the_first_wrong_part_in_order(self):
        self.ask(('+', ('+', 1, True), ('of', 'zed', 'pay')), (1, 2))
        self.ask(('+', ('of', 'zed', 'pay'), True), (1,))
        self.ask(('if', ('and', ALWAYS, 3), None, None), (1, 2))
        self.ask(('if', ALWAYS, None, True), (2,))
        self.ask(('zed', True, None), ())
        self.ask(('sum', ('my', 'age'), 7), (1,))
        self.ask(('sum', ('my', 'pay'), 7), (2,))
        self.statement(('or', ('=', 1, ('count', 2)), ('my', 'pay')), (1, 2, 1))
        # A part comes before the parts in it, whatever stands in those.
        self.ask(('+', True), ())
        self.ask(('+', ('+', True, True, True), True), (1,))

    def test_nested_deep(self):
        thing = ('my', 'pay')
        for _ in range(2000):
            thing = ('least', 1, thing)
        self.ask(thing, (2,) * 2000)
        self.same(lets_ask(PAY, ('sum', thing, ALWAYS)), 4005)

    def test_by_name(self):
        self.same([lets_ask(house=PAY, thing=SUM), lets_statement(thing=TOP[0], house=PAY)], [5, 3])

    def test_as_the_document_says(self):
        maker = Maker(3)
        for _ in range(3000):
            kind, house = maker.random.choice((N, C)), maker.random.choice((PAY, TRIO))
            thing = maker.expression(kind, maker.random.randrange(5), ('ann', 'pay'))
            if maker.random.random() < 0.5:
                thing = maker.damaged(thing)
            for due, lets in ((N, lets_ask), (C, lets_statement)):
                wrong = wrong_by_document(thing, due, house)
                if wrong is None:
                    self.same(lets(house, thing), len(parts_by_document(thing)))
                else:
                    self.raises(UnfitExpression, [wrong], lets, house, thing)
