"""Worlds: points 3 and 23."""

from mumhouse.values import is_true
from mumhouse.worlds import how_many_worlds, is_possible, is_world, possible_worlds
from tests.samples import ALWAYS, ANN, ANY, BOB, NEVER, PAY, SUM, TRIO, W, Case, worlds_of

LOW = (('ann', 'bob'), (('pay', 0, 2),), (('<', SUM, 2),))


def ruled(house, *rules):
    return (*house[:2], rules)


RULES = ((), (ALWAYS,), (NEVER,), (ALWAYS, NEVER), (('<', SUM, 2),), (('=', SUM, 4),), (('=', SUM, 0), ('=', ANN, 0)),
         (('<', SUM, 3), ('<', ANN, BOB)), (('not', ('=', ANN, 1)),), (('=', ANN, 0), ('=', BOB, 2), ALWAYS))
TRIO_RULES = ((), (('<', 5, ('sum', ('my', 'pay'), ALWAYS)),), (('=', ('count', ('=', ('my', 'age'), 1)), 3),),
              (('=', ('of', 'bob', 'pay'), ('of', 'cid', 'age')), ('<', ('of', 'ann', 'age'), 0)))


class PossibleTest(Case):
    def test_example(self):
        self.same([how_many_worlds(PAY), list(possible_worlds(LOW)), is_world(LOW, ((2,), (1,))),
                   is_possible(LOW, ((2,), (1,)))], [9, [((0,), (0,)), ((0,), (1,)), ((1,), (0,))], True, False])

    def test_all_some_one_and_none(self):
        for house, ruless in ((PAY, RULES), (TRIO, TRIO_RULES)):
            for rules in ruless:
                some = ruled(house, *rules)
                due = [world for world in worlds_of(house) if all(is_true(house, world, rule) for rule in rules)]
                self.same(list(possible_worlds(some)), due)
                self.same(how_many_worlds(some), len(due))
                self.same([world for world in worlds_of(house) if is_possible(some, world)], due)
                self.same([is_world(some, world) for world in worlds_of(house)], [True] * len(worlds_of(house)))
        self.same([how_many_worlds(ruled(PAY, *rules)) for rules in RULES], [9, 9, 0, 0, 3, 1, 1, 2, 6, 1])

    def test_ascending(self):
        for house in (PAY, LOW, TRIO, (('a', 'b'), (('p', -1, 0), ('q', 5, 6)), ())):
            found = list(possible_worlds(house))
            self.same(found, sorted(set(found)))

    def test_one_person_and_narrow_fields(self):
        self.same(list(possible_worlds((('a',), (('p', 3, 3),), ()))), [((3,),)])
        self.same(list(possible_worlds((('a',), (('p', -1, 0), ('q', 3, 3)), ()))), [((-1, 3),), ((0, 3),)])
        self.same(how_many_worlds((('a',), (('p', -100, 100),), ())), 201)

    def test_two_walked_at_once(self):
        one, other = possible_worlds(house=PAY), possible_worlds(PAY)
        self.same([next(one), next(one), next(other), next(one), next(other)], [W[0], W[1], W[0], W[2], W[1]])
        self.same([list(one), list(other)], [list(W[3:]), list(W[2:])])
        self.same([list(one), list(other)], [[], []])

    def test_one_by_one(self):
        huge = (('a', 'b', 'c'), (('p', -10 ** 50, 10 ** 50), ('q', 0, 9)), ())
        walk = possible_worlds(huge)
        self.same([next(walk)[2], next(walk)[2]], [(-10 ** 50, 0), (-10 ** 50, 1)])

    def test_by_name(self):
        self.same([how_many_worlds(house=LOW), is_world(house=LOW, thing=W[0]), is_possible(house=LOW, thing=W[0])],
                  [3, True, True])
        self.same([is_world(thing=(), house=LOW), is_possible(thing=(), house=LOW)], [False, False])


class AnyValueTest(Case):
    def test_values_of_other_kinds(self):
        for house in (PAY, LOW, TRIO, (('a',), (('p', 1, 2),), ())):
            for thing in (*ANY, 0, 1, -1, 10 ** 59):
                self.same([is_world(house, thing), is_possible(house, thing)], [False, False])

    def test_rows(self):
        for thing in ([(0,), (0,)], ([0], (0,)), ((0,), [0]), ((0,),), ((0,), (0,), (0,)), ((0, 0), (0,)), ((0,), ()), ((), ()),
                      (0, 0), ((True,), (0,)), ((0,), (False,)), ((0,), (None,)), ((0,), ('1',)), ((0,), ((1,),)), ('0', '0'),
                      ((3,), (0,)), ((0,), (3,)), ((-1,), (0,)), ((0,), (-1,)), ((0,), (10 ** 59,)), (((0,), (0,)),)):
            self.same([is_world(PAY, thing), is_possible(PAY, thing)], [False, False])
            self.same([is_world(LOW, thing), is_possible(LOW, thing)], [False, False])

    def test_bounds_of_each_field(self):
        row = (0, 1)
        for age, pay, due in ((-1, 0, True), (1, 2, True), (-2, 0, False), (2, 0, False), (0, -1, False), (0, 3, False),
                              (2, 2, False), (0, 0, True)):
            for world in (((age, pay), row, row), (row, (age, pay), row), (row, row, (age, pay))):
                self.same([is_world(TRIO, world), is_possible(TRIO, world)], [due, due])

    def test_possible_only_if_all_rules_are_true(self):
        house = ruled(PAY, ('<', ANN, 2), ('<', BOB, 2))
        self.same([is_possible(house, world) for world in W], [a < 2 and b < 2 for (a,), (b,) in W])
