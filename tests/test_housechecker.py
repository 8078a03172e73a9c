"""Houses: points 3 and 12."""

from mumhouse.errors import InvalidPaper
from mumhouse.housechecker import lets_house
from tests.samples import ANN, PAY, RIGHT_NAMES, SIXTY, SUM, TOP, TRIO, WRONG_NAMES, Case

PEOPLE, FIELDS, _ = PAY
ALWAYS = ('=', 0, 0)


class HouseTest(Case):
    def wrong(self, word, at, thing):
        self.raises(InvalidPaper, [word, at], lets_house, thing)

    def test_examples(self):
        self.same(lets_house(PAY), 2)
        self.wrong('rule', 0, (('ann',), (('pay', 0, 2),), (('<', ('my', 'pay'), 1),)))

    def test_houses(self):
        self.same(lets_house(TRIO), 3)
        self.same(lets_house((('a',), (('z', 5, 5),), ())), 1)
        self.same(lets_house((('a',), (('z', -SIXTY, SIXTY),), ())), 1)
        self.same(lets_house((PEOPLE, (('a', 0, 0), ('aa', 0, 0), ('b', -2, -1)), (('=', ('of', 'bob', 'aa'), 0), ALWAYS))), 2)
        self.same(lets_house((tuple(sorted(RIGHT_NAMES)), FIELDS, (('<', SUM, 2),))), len(RIGHT_NAMES))
        self.same(lets_house(thing=PAY), 2)

    def test_shape(self):
        for thing in (None, True, 0, 1, '', 'people ann', (), [], (PEOPLE,), (PEOPLE, FIELDS), (PEOPLE, FIELDS, (), ()),
                      list(PAY), (list(PEOPLE), FIELDS, ()), (PEOPLE, list(FIELDS), ()), (PEOPLE, FIELDS, []),
                      (PEOPLE, FIELDS, None), ('ann', FIELDS, ()), (None, FIELDS, ()), (PEOPLE, None, ()),
                      (PEOPLE, 'pay', ()), (PEOPLE, FIELDS[0], ())):
            self.wrong('shape', -1, thing)
        for name in WRONG_NAMES:
            self.wrong('shape', -1, (('ann', name), FIELDS, ()))
            self.wrong('shape', -1, ((name,), FIELDS, ()))
            self.wrong('shape', -1, (PEOPLE, ((name, 0, 2),), ()))
        for field in (None, 'pay', (), ('pay',), ('pay', 0), ('pay', 0, 2, 2), ['pay', 0, 2], ('pay', False, 2),
                      ('pay', 0, True), ('pay', '0', 2), ('pay', 0, None), (0, 'pay', 2), ('pay', (0,), 2)):
            self.wrong('shape', -1, (PEOPLE, (field,), ()))
            self.wrong('shape', -1, (PEOPLE, (('a', 0, 0), field), ()))

    def test_people(self):
        for people in ((), ('bob', 'ann'), ('ann', 'ann'), ('ann', 'bob', 'bob'), ('ann', 'cid', 'bob')):
            self.wrong('people', -1, (people, FIELDS, ()))

    def test_fields(self):
        self.wrong('fields', -1, (PEOPLE, (), ()))

    def test_field(self):
        self.wrong('field', 0, (PEOPLE, (('pay', 2, 1),), ()))
        self.wrong('field', 0, (PEOPLE, (('pay', 0, -1),), ()))
        self.wrong('field', 1, (PEOPLE, (('pay', 0, 0), ('pay', 0, 0)), ()))
        self.wrong('field', 1, (PEOPLE, (('pay', 0, 0), ('age', 0, 0)), ()))
        self.wrong('field', 1, (PEOPLE, (('age', 0, 0), ('pay', 1, 0)), ()))
        self.wrong('field', 2, (PEOPLE, (('a', 0, 0), ('b', 0, 0), ('b', 1, 1)), ()))
        self.wrong('field', 2, (PEOPLE, (('b', 0, 0), ('c', 0, 0), ('a', 1, 1)), ()))

    def test_rule(self):
        for rule in (None, True, 0, SUM, ANN, (), [], list(ALWAYS), ('=', 0), ('=', 0, 0, 0), ('=', True, 0),
                     ('=', ('of', 'zed', 'pay'), 0), ('=', ('of', 'ann', 'age'), 0), ('=', ('my', 'pay'), 0),
                     ('not', SUM), 'rule'):
            self.wrong('rule', 0, (PEOPLE, FIELDS, (rule,)))
            self.wrong('rule', 2, (PEOPLE, FIELDS, (ALWAYS, TOP[0], rule, None)))

    def test_the_first_of_several(self):
        self.wrong('shape', -1, ((), (), ('x',), 0))
        self.wrong('shape', -1, (('ann', 'Bob'), (), ()))
        self.wrong('shape', -1, (('b', 'a'), (('pay', 0, None),), (0,)))
        self.wrong('people', -1, (('b', 'a'), (), (0,)))
        self.wrong('people', -1, ((), (('pay', 1, 0),), (0,)))
        self.wrong('fields', -1, (PEOPLE, (), (0,)))
        self.wrong('field', 0, (PEOPLE, (('pay', 1, 0), ('age', 1, 0)), (0,)))
        self.wrong('field', 1, (PEOPLE, (('pay', 0, 0), ('age', 0, 0), ('a', 1, 0)), (0,)))
        self.wrong('rule', 1, (PEOPLE, FIELDS, (ALWAYS, SUM, None)))

    def test_nothing_is_changed(self):
        thing = [['ann'], [['pay', 0, 2]], []]
        self.wrong('shape', -1, thing)
        self.same(thing, [['ann'], [['pay', 0, 2]], []])
