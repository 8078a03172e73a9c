"""Terms: points 15 and 18."""

import operator

from mumhouse.errors import UnfitExpression
from mumhouse.expressions import parts_of
from mumhouse.housereadings import expression_read
from mumhouse.terms import Condition, Term
from mumhouse.values import is_true, value_of
from tests.samples import ANN, PAY, SIXTY, SUM, TOP, TRIO, W, WRONG_NAMES, Case, worlds_of
from tests.test_expressions import ALWAYS, C, N, WORDS, Maker, made, wrong_by_document

t = Term(ANN)
u = Term(('my', 'pay'))
c = Condition(TOP[0])
d = Condition(('<', 0, ('my', 'pay')))
OTHERS = (0, 1, True, False, None, '', 'of ann pay', (), [], ANN, ALWAYS, TOP[0], list(ANN))


class FormCase(Case):
    def term(self, found, form):
        self.assertIs(type(found), Term)
        self.same(found.form, form)

    def condition(self, found, form):
        self.assertIs(type(found), Condition)
        self.same(found.form, form)


class ConstructorTest(FormCase):
    def test_example(self):
        t = Term.of('ann', 'pay')
        self.same([(1 - t).form, t.equals(2).form == TOP[0], (t + 1)(PAY, ((2,), (0,))), str(t.less(2) & ~t.equals(0))],
                  [('-', 1, ('of', 'ann', 'pay')), True, 3, 'and < of ann pay 2 not = of ann pay 0'])

    def test_each_word(self):
        for word, (own, _) in WORDS.items():
            right, other = (Term, Condition) if own == N else (Condition, Term)
            self.same(right(made(word)).form, made(word))
            self.raises(UnfitExpression, [()], other, made(word))
            for thing in (made(word)[:-1], (*made(word), 0), list(made(word))):
                self.raises(UnfitExpression, [()], right, thing)

    def test_any_values(self):
        for number in (0, 3, -3, SIXTY, -SIXTY):
            self.term(Term(number), number)
            self.raises(UnfitExpression, [()], Condition, number)
        for thing in (True, False, None, '', '1', (), [], [1], (1,), ((),), t, c, 'of'):
            self.raises(UnfitExpression, [()], Term, thing)
            self.raises(UnfitExpression, [()], Condition, thing)

    def test_the_first_wrong_part_by_form_alone(self):
        self.term(Term(('+', ('my', 'zed'), ('of', 'x', 'y'))), ('+', ('my', 'zed'), ('of', 'x', 'y')))
        self.condition(Condition(('=', ('my', 'zed'), 1)), ('=', ('my', 'zed'), 1))
        self.raises(UnfitExpression, [(1, 2)], Term, ('+', ('+', ('my', 'z'), True), True))
        self.raises(UnfitExpression, [(2,)], Condition, ('and', ALWAYS, 1))
        self.raises(UnfitExpression, [(1, 1)], Condition, ('not', ('=', ALWAYS, True)))
        self.raises(UnfitExpression, [(2,)], Term, ('sum', 1, t.form))
        self.raises(UnfitExpression, [(1,)], Term, ('+', t, 1))

    def test_as_the_document_says(self):
        maker = Maker(10)
        for _ in range(800):
            thing = maker.damaged(maker.expression(maker.random.choice((N, C)), maker.random.randrange(4)))
            for kind, made_by in ((N, Term), (C, Condition)):
                wrong = wrong_by_document(thing, kind, None)
                if wrong is None:
                    self.same(made_by(thing).form, thing)
                else:
                    self.raises(UnfitExpression, [wrong], made_by, thing)

    def test_by_name(self):
        self.term(Term(expression=ANN), ANN)
        self.condition(Condition(expression=ALWAYS), ALWAYS)
        self.term(Term.of(field='pay', person='ann'), ANN)
        self.term(Term.my(field='pay'), ('my', 'pay'))

    def test_static_methods(self):
        self.term(Term.of('my', 'abcdefgh'), ('of', 'my', 'abcdefgh'))
        self.term(Term.my('z'), ('my', 'z'))
        self.term(t.of('a', 'b'), ('of', 'a', 'b'))
        for name in WRONG_NAMES:
            self.raises(UnfitExpression, [()], Term.of, name, 'pay')
            self.raises(UnfitExpression, [()], Term.of, 'ann', name)
            self.raises(UnfitExpression, [()], Term.my, name)


class SignsTest(FormCase):
    def test_terms(self):
        for sign, word in ((operator.add, '+'), (operator.sub, '-'), (operator.mul, '*')):
            self.term(sign(t, u), (word, ANN, ('my', 'pay')))
            self.term(sign(u, t), (word, ('my', 'pay'), ANN))
            self.term(sign(t, t), (word, ANN, ANN))
            for number in (0, 1, -7, SIXTY):
                self.term(sign(t, number), (word, ANN, number))
                self.term(sign(number, t), (word, number, ANN))

    def test_methods_of_terms(self):
        for other, form in ((u, ('my', 'pay')), (0, 0), (-5, -5), (SIXTY, SIXTY), (t, ANN)):
            self.term(t.least(other), ('least', ANN, form))
            self.term(t.most(other), ('most', ANN, form))
            self.condition(t.less(other), ('<', ANN, form))
            self.condition(t.equals(other), ('=', ANN, form))
        self.term(t.summed(c), ('sum', ANN, TOP[0]))
        self.term(u.summed(d), ('sum', ('my', 'pay'), ('<', 0, ('my', 'pay'))))

    def test_conditions(self):
        self.condition(c & d, ('and', TOP[0], d.form))
        self.condition(d & c, ('and', d.form, TOP[0]))
        self.condition(c | d, ('or', TOP[0], d.form))
        self.condition(d | c, ('or', d.form, TOP[0]))
        self.condition(~c, ('not', TOP[0]))
        self.condition(~~c, ('not', ('not', TOP[0])))

    def test_methods_of_conditions(self):
        self.term(c.counted(), ('count', TOP[0]))
        for one, first in ((t, ANN), (3, 3), (-SIXTY, -SIXTY)):
            for other, second in ((u, ('my', 'pay')), (0, 0)):
                self.term(c.choose(one, other), ('if', TOP[0], first, second))
                self.term(c.choose(other, one), ('if', TOP[0], second, first))

    def test_objects_do_not_change(self):
        before = [repr(thing.form) for thing in (t, u, c, d)]
        t + u, 1 - t, t * 2, t.least(u), t.most(1), t.less(u), t.equals(1), t.summed(c), len(t), str(t), list(t.parts())
        c & d, c | d, ~c, c.counted(), c.choose(t, u), c.choose(1, 2), len(c), str(c), list(c.parts())
        sum_of_all = t
        sum_of_all += 1
        both = c
        both &= d
        both |= c
        self.same([repr(thing.form) for thing in (t, u, c, d)], before)
        self.term(sum_of_all, ('+', ANN, 1))
        for thing in (t, c):
            with self.assertRaises(AttributeError):
                thing.form = 0

    def test_many_signs(self):
        long = t
        for _ in range(1200):
            long = long + 1
        self.same([len(long), long(PAY, ((2,), (0,))), len(str(long)), long == long + 0, long == Term(long.form)],
                  [2401, 1202, 4810, False, True])
        self.same(len(list(long.parts())), 2401)


class QuestionsTest(FormCase):
    def test_length_and_text(self):
        for thing, many, text in ((t, 1, 'of ann pay'), (u, 1, 'my pay'), (Term(-3), 1, '-3'), (Term(SUM), 5, 'sum my pay = 0 0'),
                                  (c, 3, '= of ann pay 2'), (d, 3, '< 0 my pay'), (~c, 4, 'not = of ann pay 2')):
            self.same([len(thing), str(thing)], [many, text])
        self.same(Term(expression_read(str(t - u))) == t - u, True)

    def test_equal(self):
        things = [t, u, Term(0), Term(1), t + 1, 1 + t, t - t, Term(SUM), c, d, ~c, c & d, d & c, Condition(ALWAYS)]
        for k, one in enumerate(things):
            for j, other in enumerate(things):
                self.same([one == other, one != other], [k == j, k != j])
            self.same(one == type(one)(one.form), True)
            for other in (*OTHERS, one.form, str(one), len(one)):
                self.same([one == other, other == one, one != other], [False, False, True])

    def test_parts(self):
        for thing in (t, Term(5), Term(SUM), c & d, ~c, c.choose(t, 1)):
            self.same(list(thing.parts()), [part for _, part in parts_of(thing.form)])
        self.same(list(Term(SUM).parts()), [SUM, ('my', 'pay'), ALWAYS, 0, 0])

    def test_parts_walked_twice_at_once(self):
        for thing in (Term(SUM), c & d):
            due = list(thing.parts())
            self.same(list(zip(thing.parts(), thing.parts())), list(zip(due, due)))
            first = thing.parts()
            next(first)
            self.same([next(thing.parts()), next(first)], due[:2])

    def test_calls(self):
        maker = Maker(11)
        for _ in range(200):
            house = maker.random.choice((PAY, TRIO))
            thing = maker.expression(maker.random.choice((N, C)), maker.random.randrange(5), ('ann', 'pay', 'age'))
            kind, made_by, value = (N, Term, value_of)
            if thing == ALWAYS or isinstance(thing, tuple) and WORDS[thing[0]][0] == C:
                kind, made_by, value = C, Condition, is_true
            wrong = wrong_by_document(thing, kind, house)
            for world in maker.random.sample(worlds_of(house), 3):
                if wrong is None:
                    self.same(made_by(thing)(house, world), value(house, world, thing))
                else:
                    self.raises(UnfitExpression, [wrong], made_by(thing), house, world)

    def test_unfit_calls(self):
        self.raises(UnfitExpression, [()], u, PAY, W[0])
        self.raises(UnfitExpression, [(2,)], t + u, PAY, W[0])
        self.raises(UnfitExpression, [(2,)], d, PAY, W[0])
        self.raises(UnfitExpression, [(1, 1, 1, 1)], c.choose(1, 2).equals(0) & d, (('bob',), PAY[1], ()), ((0,),))
        self.raises(UnfitExpression, [()], Term.of('zed', 'pay'), PAY, W[0])
        self.raises(UnfitExpression, [(1,)], Term.of('ann', 'age').equals(1), PAY, W[0])
        self.raises(UnfitExpression, [(1, 2)], (t + u) * Term.of('zed', 'pay'), PAY, W[0])
        self.raises(UnfitExpression, [(2, 2)], c & d, PAY, W[0])
        self.same([d.counted()(PAY, ((2,), (0,))), u.summed(d)(house=PAY, world=((2,), (0,)))], [1, 2])
        self.same([c(PAY, ((2,), (0,))), (~c)(PAY, ((2,), (0,)))], [True, False])

    def test_consequences(self):
        for thing in (t, Term(SUM), 3 * t - 1, d.counted()):
            for world in W:
                self.same((thing - thing)(PAY, world), 0)
                self.same(thing(PAY, world), value_of(PAY, world, thing.form))
            self.same(thing - thing == Term(0), False)
