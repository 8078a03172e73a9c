"""Houses as objects: points 16, 17 and 18."""

from mumhouse.errors import InvalidPaper, InvalidText
from mumhouse.houseclasses import House
from mumhouse.housechecker import lets_house
from mumhouse.housetexts import house_text
from mumhouse.terms import Condition, Term
from mumhouse.values import value_of
from tests.samples import ALWAYS, ANN, ANY, NEVER, PAY, RIGHT_NAMES, SIXTY, SUM, TOP, TRIO, W, Case
from tests.test_expressions import C, N, Maker, wrong_by_document

t = Term.of('ann', 'pay')
PEOPLE, FIELDS, _ = PAY
NINE = tuple(('<', ANN, k) for k in range(9))


class HouseTest(Case):
    def wrong(self, word, at, function, *given, **named):
        self.raises(InvalidPaper, [word, at], function, *given, **named)

    def test_example(self):
        h = House(('ann', 'bob'), (('pay', 0, 2),))
        self.same([h.form == PAY, 'bob' in h, len(h.with_rule(t.less(2)).rules), list(h.numbers('pay'))],
                  [True, True, 1, [0, 1, 2]])

    def test_rules_of_both_kinds(self):
        for rules in ((), (ALWAYS,), (TOP[0], ALWAYS, NEVER), NINE):
            for given in (rules, [Condition(rule) for rule in rules],
                          [Condition(rule) if k % 2 else rule for k, rule in enumerate(rules)]):
                h = House(PEOPLE, FIELDS, *given)
                self.same([h.people, h.fields, h.rules, h.form], [PEOPLE, FIELDS, rules, (PEOPLE, FIELDS, rules)])
                self.same(len(h), 2)

    def test_by_name(self):
        self.same(House(people=PEOPLE, fields=FIELDS).form, PAY)
        self.same(House(fields=FIELDS, people=PEOPLE).with_rule(rule=ALWAYS).form, (PEOPLE, FIELDS, (ALWAYS,)))
        self.same(list(House(*PAY[:2]).numbers(field='pay')), [0, 1, 2])
        self.same(House.parsed(text='people ann\nfield pay 0 2').form, (('ann',), FIELDS, ()))

    def test_shape(self):
        for thing in (*ANY, 0):
            if thing not in ((), ('a',)):
                self.wrong('shape', -1, House, thing, FIELDS)
            if thing != ():
                self.wrong('shape', -1, House, PEOPLE, thing)
        self.wrong('shape', -1, House, list(PEOPLE), FIELDS)
        self.wrong('shape', -1, House, PEOPLE, list(FIELDS))
        self.wrong('shape', -1, House, ('ann', 'Bob'), FIELDS)
        self.wrong('shape', -1, House, PEOPLE, (('pay', 0, True),))
        self.wrong('shape', -1, House, PEOPLE, (['pay', 0, 2],))

    def test_people_and_fields(self):
        self.wrong('people', -1, House, (), FIELDS)
        self.wrong('people', -1, House, ('bob', 'ann'), FIELDS, ALWAYS)
        self.wrong('fields', -1, House, PEOPLE, ())
        self.wrong('field', 0, House, PEOPLE, (('pay', 2, 1),))
        self.wrong('field', 1, House, PEOPLE, (('pay', 0, 2), ('age', 0, 2)))

    def test_rule(self):
        for rule in (*ANY, 0, 1, SUM, ANN, t, Condition(('=', ('my', 'pay'), 1)), ('=', ('of', 'zed', 'pay'), 0),
                     Condition(('=', ('of', 'ann', 'age'), 0)), ('=', t, 0), ('not', Condition(ALWAYS)), list(ALWAYS), House(*PAY[:2])):
            self.wrong('rule', 0, House, PEOPLE, FIELDS, rule)
            self.wrong('rule', 1, House, PEOPLE, FIELDS, Condition(ALWAYS), rule, None)
            self.wrong('rule', 0, House(*PAY[:2]).with_rule, rule)
            self.wrong('rule', 3, House(PEOPLE, FIELDS, ALWAYS, NEVER, ALWAYS).with_rule, rule)
            self.wrong('rule', 9, House(PEOPLE, FIELDS, *NINE).with_rule, rule=rule)

    def test_the_first_of_several(self):
        self.wrong('shape', -1, House, ('b', 'a'), (('pay', 0),), None)
        self.wrong('people', -1, House, ('b', 'a'), (), None)
        self.wrong('fields', -1, House, PEOPLE, (), None)
        self.wrong('field', 0, House, PEOPLE, (('pay', 1, 0), ('age', 1, 0)), None)
        self.wrong('rule', 1, House, PEOPLE, FIELDS, ALWAYS, None, None)

    def test_with_rule(self):
        h = House(PEOPLE, FIELDS, ALWAYS)
        more = h.with_rule(TOP[0])
        again = more.with_rule(Condition(NEVER))
        self.assertIs(type(more), House)
        self.same([h.rules, more.rules, again.rules], [(ALWAYS,), (ALWAYS, TOP[0]), (ALWAYS, TOP[0], NEVER)])
        self.same(more == House(PEOPLE, FIELDS, ALWAYS, TOP[0]), True)

    def test_contains(self):
        h = House(*PAY[:2])
        self.same([name in h for name in ('ann', 'bob', 'cid', 'Ann', 'an', '', 'pay')], [True, True, False, False, False, False, False])
        for thing in (*ANY, 0, 1, ('ann',), ['ann'], ('ann', 'bob'), PAY, h):
            self.same(thing in h, False)

    def test_length(self):
        self.same([len(House(*TRIO[:2])), len(House(('a',), FIELDS)), len(House(tuple(sorted(RIGHT_NAMES)), FIELDS))],
                  [3, 1, len(RIGHT_NAMES)])

    def test_equal(self):
        forms = (PAY, TRIO, (*PAY[:2], (ALWAYS,)), (*PAY[:2], (NEVER,)), (*PAY[:2], (ALWAYS, ALWAYS)), (('ann',), FIELDS, ()),
                 (PEOPLE, (('pay', 0, 3),), ()), (PEOPLE, (('paid', 0, 2),), ()), (PEOPLE, (('pay', 1, 2),), ()))
        for one in forms:
            for other in forms:
                same = one == other
                self.same([House(one[0], one[1], *one[2]) == House(other[0], other[1], *other[2]),
                           House(one[0], one[1], *one[2]) != House(other[0], other[1], *other[2])], [same, not same])
            for other in (*ANY, 0, one, list(one), str(one), house_text(one), Condition(ALWAYS)):
                self.same([House(one[0], one[1], *one[2]) == other, other == House(one[0], one[1], *one[2])], [False, False])
        self.same(House(*PAY[:2], Condition(ALWAYS)) == House(*PAY[:2], ALWAYS), True)

    def test_text(self):
        self.same(str(House(*PAY[:2])), 'people ann,bob\nfield pay 0 2')
        self.same(str(House(*TRIO[:2], ALWAYS, TOP[0])),
                  'people ann,bob,cid\nfield age -1 1\nfield pay 0 2\nrule = 0 0\nrule = of ann pay 2')

    def test_numbers(self):
        h = House(('a',), (('n', -2, 1), ('o', 5, 5), ('p', SIXTY - 1, SIXTY)))
        self.same([list(h.numbers('n')), list(h.numbers('o')), list(h.numbers('p'))],
                  [[-2, -1, 0, 1], [5], [SIXTY - 1, SIXTY]])
        one, other = h.numbers('n'), h.numbers('n')
        third = h.numbers('o')
        self.same([next(one), next(one), next(other), next(third), next(one), next(other)], [-2, -1, -2, 5, 0, -1])
        self.same([list(one), list(other), list(third)], [[1], [0, 1], []])
        huge = House(('a',), (('n', -SIXTY, SIXTY),)).numbers('n')
        self.same([next(huge), next(huge)], [-SIXTY, 1 - SIXTY])

    def test_a_house_does_not_change(self):
        h = House(PEOPLE, FIELDS, ALWAYS)
        for use in (lambda: h.with_rule(NEVER), lambda: list(h.numbers('pay')), lambda: str(h), lambda: h == House(*PAY[:2])):
            use()
            self.same(h.form, (PEOPLE, FIELDS, (ALWAYS,)))
        for name in ('people', 'fields', 'rules', 'form'):
            with self.assertRaises(AttributeError):
                setattr(h, name, ())
        rules = [Condition(ALWAYS), NEVER]
        h = House(PEOPLE, FIELDS, *rules)
        rules.clear()
        self.same(h.rules, (ALWAYS, NEVER))


class ParsedTest(Case):
    def test_what_is_written_is_read_back(self):
        maker = Maker(31)
        for _ in range(60):
            rules = [maker.expression(C, maker.random.randrange(1, 4), ('ann', 'bob', 'pay', 'age')) for _ in range(3)]
            rules = tuple(rule for rule in rules if wrong_by_document(rule, C, TRIO) is None)
            h = House(*TRIO[:2], *rules)
            found = House.parsed(str(h))
            self.assertIs(type(found), House)
            self.same([found == h, found.form], [True, (*TRIO[:2], rules)])
            self.same(str(found), str(h))

    def test_errors_of_the_text_first(self):
        for text, line, field in (('', 0, 0), ('people ann', 1, 0), ('people bob,ann\nfield pay 0 2', 0, 1),
                                  ('people ann\nfield pay 0', 1, 3), ('people ann\nfield pay 2 1\nrule 1', 2, 1),
                                  ('people ann\nfield pay 0 2\n', 2, 0), ('people ann\nfield pay 2 1\nrule = 0 0 0', 2, 4)):
            self.raises(InvalidText, [line, field], House.parsed, text)

    def test_then_those_of_the_house(self):
        for text, word, at in (('people ann\nfield pay 2 1', 'field', 0), ('people ann\nfield pay 0 2\nfield age 0 2', 'field', 1),
                               ('people ann\nfield pay 0 2\nrule = my pay 0', 'rule', 0),
                               ('people ann\nfield pay 0 2\nrule = 0 0\nrule = of bob pay 0', 'rule', 1),
                               ('people ann\nfield pay 2 1\nrule = my pay 0', 'field', 0)):
            self.raises(InvalidPaper, [word, at], House.parsed, text)

    def test_on_an_object_too(self):
        self.same(House(*PAY[:2]).parsed('people z\nfield a -1 1').form, (('z',), (('a', -1, 1),), ()))


class ConsequencesTest(Case):
    def test_terms_have_the_values_of_their_forms(self):
        maker = Maker(32)
        for _ in range(60):
            ask = maker.expression(N, 3, ('ann', 'pay'))
            if wrong_by_document(ask, N, PAY) is None:
                term = Term(ask)
                for world in W:
                    self.same([term(PAY, world), (term - term)(PAY, world)], [value_of(PAY, world, ask), 0])
                self.same(term - term == Term(0), False)

    def test_the_form_is_a_house(self):
        self.same(lets_house(House(*TRIO[:2], *NINE).form), 3)
