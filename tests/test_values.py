"""Values: points 4, 13 and 14."""

from tests.samples import ANN, BOB, PAY, SIXTY, SUM, TOP, TRIO, W, Case, worlds_of
from tests.test_expressions import ALWAYS, C, N, Maker, wrong_by_document

from mumhouse.values import is_true, value_of, values_of

NEVER = ('=', 0, 1)
PAID = ('my', 'pay')


def by_document(house, world, part, me=None):
    """The value of a part as point 4 says it, with a call for each part in it."""
    people, fields = house[0], [field[0] for field in house[1]]
    if isinstance(part, int):
        return part
    word, *rest = part
    if word == 'of':
        return world[people.index(rest[0])][fields.index(rest[1])]
    if word == 'my':
        return me[fields.index(rest[0])]
    if word == 'count':
        return sum(1 for row in world if by_document(house, world, rest[0], row))
    if word == 'sum':
        return sum(by_document(house, world, rest[0], row) for row in world if by_document(house, world, rest[1], row))
    found = [by_document(house, world, each, me) for each in rest]
    if word == 'if':
        return found[1] if found[0] else found[2]
    if word == 'not':
        return not found[0]
    return {'+': lambda a, b: a + b, '-': lambda a, b: a - b, '*': lambda a, b: a * b, 'least': min, 'most': max,
            '=': lambda a, b: a == b, '<': lambda a, b: a < b, 'and': lambda a, b: a and b,
            'or': lambda a, b: a or b}[word](*found)


class ValuesTest(Case):
    def value(self, ask, due, world=((2,), (1,)), house=PAY):
        self.same(value_of(house, world, ask), due)

    def truth(self, statement, due, world=((2,), (1,)), house=PAY):
        self.same(is_true(house, world, statement), due)

    def test_example(self):
        self.same([value_of(PAY, ((2,), (1,)), SUM), is_true(PAY, ((2,), (1,)), TOP[0])], [3, True])

    def test_integers(self):
        for number in (0, 1, -1, SIXTY, -SIXTY):
            self.value(number, number)
        self.value(('*', SIXTY, -SIXTY), -SIXTY * SIXTY)
        self.value(('+', SIXTY, SIXTY), 2 * SIXTY)

    def test_of(self):
        world = ((-1, 0), (0, 1), (1, 2))
        for k, person in enumerate(TRIO[0]):
            for j, field in enumerate(('age', 'pay')):
                self.value(('of', person, field), world[k][j], world, TRIO)

    def test_numbers(self):
        for a in (0, 3, -2):
            for b in (0, 3, -2, -7):
                for word, due in (('+', a + b), ('-', a - b), ('*', a * b), ('least', min(a, b)), ('most', max(a, b))):
                    self.value((word, a, b), due)
                for word, due in (('=', a == b), ('<', a < b)):
                    self.truth((word, a, b), due)

    def test_conditions(self):
        for c in (ALWAYS, NEVER):
            self.truth(('not', c), c is NEVER)
            self.value(('if', c, 5, -6), 5 if c is ALWAYS else -6)
            for d in (ALWAYS, NEVER):
                self.truth(('and', c, d), c is ALWAYS and d is ALWAYS)
                self.truth(('or', c, d), c is ALWAYS or d is ALWAYS)

    def test_count_and_sum(self):
        self.value(('count', ALWAYS), 2)
        self.value(('count', NEVER), 0)
        self.value(('count', ('<', PAID, 2)), 1)
        self.value(('sum', PAID, NEVER), 0)
        self.value(('sum', PAID, ('<', 1, PAID)), 2)
        self.value(('sum', ('*', PAID, PAID), ALWAYS), 5)
        self.value(('sum', -4, ALWAYS), -8)
        self.value(('sum', ('of', 'bob', 'pay'), ALWAYS), 2)
        self.value(('sum', ('if', ('=', PAID, 1), 10, PAID), ALWAYS), 12)
        self.value(('count', ('=', PAID, ANN)), 1)
        self.value(('sum', ('my', 'age'), ('=', PAID, 2)), 0, ((-1, 2), (1, 2), (1, 0)), TRIO)

    def test_the_innermost_person(self):
        # How many have a pay that as many people have as have none: inside the inner one "my" is another person.
        self.value(('count', ('=', PAID, ('count', ('=', PAID, 1)))), 1, ((2,), (1,)))
        self.value(('sum', PAID, ('<', ('count', ('=', PAID, 2)), 2)), 3, ((2,), (1,)))
        self.value(('sum', ('+', PAID, ('sum', PAID, ALWAYS)), ('=', PAID, 2)), 5, ((2,), (1,)))
        self.value(('sum', ('sum', PAID, ('=', PAID, 2)), ('=', PAID, 1)), 2, ((2,), (1,)))
        self.value(('count', ('=', ('count', ('=', PAID, 2)), ('-', PAID, 1))), 1, ((2,), (0,)))

    def test_possible_or_not(self):
        house = (*PAY[:2], (('<', SUM, 2),))
        self.value(SUM, 4, ((2,), (2,)), house)
        self.value(SUM, 1, ((1,), (0,)), house)
        self.truth(house[2][0], False, ((2,), (2,)), house)

    def test_large_ones(self):
        house = (('a', 'b'), (('n', -SIXTY, SIXTY),), ())
        world = ((SIXTY,), (-SIXTY + 1,))
        self.value(('sum', ('my', 'n'), ALWAYS), 1, world, house)
        self.value(('*', ('of', 'a', 'n'), ('of', 'b', 'n')), SIXTY * (1 - SIXTY), world, house)
        self.truth(('<', ('of', 'b', 'n'), ('of', 'a', 'n')), True, world, house)

    def test_nested_deep(self):
        ask, statement = ANN, TOP[0]
        for _ in range(2000):
            ask, statement = ('+', ask, 1), ('not', statement)
        self.value(ask, 2002)
        self.truth(statement, True)
        self.value(('sum', ask, ALWAYS), 4004)
        counted = ('count', ('=', PAID, 2))
        for _ in range(60):
            counted = ('count', ('=', PAID, counted))
        self.value(counted, by_document(PAY, ((2,), (1,)), ('count', ('=', PAID, 1))))

    def test_values_of(self):
        self.same(values_of(PAY, ((2,), (1,))), ())
        self.same(values_of(PAY, ((2,), (1,)), SUM, ANN, BOB, SUM, -3), (3, 2, 1, 3, -3))
        self.same(values_of(PAY, ((0,), (1,)), ('*', ANN, 5)), (0,))

    def test_by_name(self):
        self.same([value_of(house=PAY, world=((2,), (1,)), ask=SUM), is_true(statement=TOP[0], world=((2,), (1,)), house=PAY),
                   values_of(house=PAY, world=((2,), (1,)))], [3, True, ()])

    def test_as_the_document_says(self):
        maker = Maker(5)
        tried = {N: 0, C: 0}
        while min(tried.values()) < 150:
            kind, house = maker.random.choice((N, C)), maker.random.choice((PAY, TRIO))
            thing = maker.expression(kind, maker.random.randrange(6), ('ann', 'bob', 'pay'))
            if wrong_by_document(thing, kind, house) is not None:
                continue
            tried[kind] += 1
            worlds = worlds_of(house)
            for world in maker.random.sample(worlds, min(len(worlds), 12)):
                if kind == N:
                    self.value(thing, by_document(house, world, thing), world, house)
                else:
                    self.truth(thing, by_document(house, world, thing), world, house)


class ConsequencesTest(Case):
    def test_consequences(self):
        maker = Maker(6)
        tried = 0
        while tried < 150:
            a, b = [maker.expression(N, maker.random.randrange(3), ('ann', 'pay')) for _ in range(2)]
            c, d = [maker.expression(C, maker.random.randrange(3), ('ann', 'pay')) for _ in range(2)]
            if any(wrong_by_document(thing, kind, PAY) is not None for thing, kind in ((a, N), (b, N), (c, C), (d, C))):
                continue
            tried += 1
            for world in W:
                def value(ask):
                    return value_of(PAY, world, ask)
                self.same(value(('sum', 1, c)), value(('count', c)))
                self.same(value(('+', ('count', c), ('count', ('not', c)))), 2)
                self.same(value(('-', a, b)), value(('+', a, ('*', -1, b))))
                self.same(value(('+', ('least', a, b), ('most', a, b))), value(('+', a, b)))
                self.same(is_true(PAY, world, ('or', c, d)),
                          is_true(PAY, world, ('not', ('and', ('not', c), ('not', d)))))
