"""What is known: points 5, 24 and 25."""

from itertools import combinations

from mumhouse.errors import UnfitExpression
from mumhouse.knowing import block, fewest_settling, is_settled, known, settled_by, values_in
from mumhouse.values import value_of
from tests.samples import ANN, BOB, PAY, SIXTY, SUM, TOP, TRIO, W, Case, worlds_of
from tests.test_expressions import ALWAYS, N, Maker, wrong_by_document

UNFIT_ASKS = ((True, ()), (None, ()), ('', ()), ((), ()), ([], ()), (('my', 'pay'), ()), (TOP[0], ()), (['+', 1, 1], ()),
              (('+', 1, ('of', 'zed', 'pay')), (2,)), (('+', ('my', 'pay'), True), (1,)), (('of', 'ann', 'age'), ()),
              (('count', ('=', ('my', 'age'), 0)), (1, 1)))
UNFIT_STATEMENTS = ((True, ()), (False, ()), (None, ()), ('', ()), ((), ()), (0, ()), (SUM, ()), (('=', 1, True), (2,)),
                    (('and', ALWAYS, ('=', ('my', 'pay'), True)), (2, 1)), (('<', 1, ('of', 'zed', 'pay')), (2,)))
IS = ('if', ('=', ANN, 1), 1, 0)
PARITY = ('-', SUM, ('*', 2, ('if', ('<', 1, SUM), ('if', ('<', 3, SUM), 2, 1), 0)))


class KnownTest(Case):
    def test_example(self):
        self.same([values_in(PAY, W, SUM), block(PAY, W, SUM, 3), known(PAY, W, TOP[0]),
                   known(PAY, block(PAY, W, SUM, 4), TOP[0])],
                  [(0, 1, 2, 3, 4), (((1,), (2,)), ((2,), (1,))), None, True])

    def test_known(self):
        self.same(known(PAY, W, ALWAYS), True)
        self.same(known(PAY, W, ('not', ALWAYS)), False)
        self.same(known(PAY, W, ('<', SUM, 4)), None)
        self.same(known(PAY, W[:-1], ('<', SUM, 4)), True)
        self.same(known(PAY, W[-1:], ('<', SUM, 4)), False)
        self.same(known(PAY, W[-2:], ('<', SUM, 4)), None)
        self.same(known(PAY, W[:3], ('=', ANN, 0)), True)
        self.same(known(PAY, W[1:4], ('=', ANN, 0)), None)
        self.same(known(PAY, W[3:], ('=', ANN, 0)), False)
        self.same(known(house=PAY, worlds=W, statement=TOP[0]), None)

    def test_values_in(self):
        self.same(values_in(PAY, W, 7), (7,))
        self.same(values_in(PAY, W, ('-', 0, SUM)), (-4, -3, -2, -1, 0))
        self.same(values_in(PAY, W[4:6], SUM), (2, 3))
        self.same(values_in(PAY, (W[2], W[4]), SUM), (2,))
        self.same(values_in(PAY, W, ('*', SIXTY, ('-', ANN, 1))), (-SIXTY, 0, SIXTY))
        self.same(values_in(ask=BOB, worlds=W, house=PAY), (0, 1, 2))

    def test_block(self):
        for value in range(5):
            self.same(block(PAY, W, SUM, value), tuple(((a,), (b,)) for a in range(3) for b in range(3) if a + b == value))
        self.same(block(PAY, W[:4], SUM, 1), (((0,), (1,)), ((1,), (0,))))
        self.same(block(PAY, W, 7, 7), W)
        self.same(block(house=PAY, worlds=W, ask=ANN, value=2), W[6:])
        for value in (5, -1, True, False, None, '', '1', (), (1,), [], [1], ((0,), (1,)), SIXTY):
            self.same(block(PAY, W, SUM, value), ())
            self.same(block(PAY, W, IS, value), ())
        self.same([block(PAY, W, 1, True), block(PAY, W, 0, False)], [(), ()])

    def test_is_settled(self):
        self.same([is_settled(PAY, W, SUM), is_settled(PAY, W[:1], SUM), is_settled(PAY, W, 3), is_settled(PAY, W[:3], ANN),
                   is_settled(PAY, W[:3], BOB), is_settled(PAY, (W[1], W[3]), SUM)],
                  [False, True, True, True, False, True])
        self.same(is_settled(house=PAY, worlds=W, ask=SUM), False)

    def test_unfit(self):
        for thing, path in UNFIT_ASKS:
            for worlds in (W, W[:1]):
                self.raises(UnfitExpression, [path], values_in, PAY, worlds, thing)
                self.raises(UnfitExpression, [path], block, PAY, worlds, thing, 0)
                self.raises(UnfitExpression, [path], block, PAY, worlds, thing, None)
                self.raises(UnfitExpression, [path], is_settled, PAY, worlds, thing)
        for thing, path in UNFIT_STATEMENTS:
            self.raises(UnfitExpression, [path], known, PAY, W, thing)

    def test_blocks_divide_the_worlds(self):
        maker = Maker(7)
        worlds = worlds_of(TRIO)[::17]
        for _ in range(60):
            ask = maker.expression(N, maker.random.randrange(4), ('ann', 'pay', 'age'))
            if wrong_by_document(ask, N, TRIO) is None:
                values = values_in(TRIO, worlds, ask)
                self.same(values, tuple(sorted({value_of(TRIO, world, ask) for world in worlds})))
                blocks = [block(TRIO, worlds, ask, value) for value in values]
                self.same(tuple(sorted(world for some in blocks for world in some)), worlds)
                self.same([known(TRIO, some, ('=', ask, value)) for some, value in zip(blocks, values)], [True] * len(values))


def settles_by_document(house, worlds, asks, ask):
    """Whether the ask is the same in each two worlds in which each of the asks is."""
    for one, other in combinations(worlds, 2):
        if all(value_of(house, one, each) == value_of(house, other, each) for each in asks):
            if value_of(house, one, ask) != value_of(house, other, ask):
                return False
    return True


def fewest_by_document(house, worlds, asks, ask):
    indexes = range(len(asks))
    enough = [set(picks) for size in range(len(asks) + 1) for picks in combinations(indexes, size)
              if settles_by_document(house, worlds, [asks[k] for k in picks], ask)]
    return tuple(sorted(tuple(sorted(picks)) for picks in enough if not any(fewer < picks for fewer in enough)))


class SettlingTest(Case):
    def test_example(self):
        self.same([settled_by(PAY, W, (SUM,), ANN), fewest_settling(PAY, W, (SUM, BOB, ANN), ANN),
                   fewest_settling(PAY, W, (SUM,), ANN)], [False, ((0, 1), (2,)), ()])

    def test_no_asks(self):
        self.same([settled_by(PAY, W, (), 3), settled_by(PAY, W, (), ANN), settled_by(PAY, W[:1], (), ANN)],
                  [True, False, True])
        self.same([fewest_settling(PAY, W, (), 3), fewest_settling(PAY, W, (), ANN), fewest_settling(PAY, W[:3], (), ANN)],
                  [((),), (), ((),)])
        self.same(fewest_settling(PAY, W, (SUM, ANN), 3), ((),))

    def test_the_ask_itself_and_one_twice(self):
        self.same(settled_by(PAY, W, (ANN,), ANN), True)
        self.same(fewest_settling(PAY, W, (ANN,), ANN), ((0,),))
        self.same(fewest_settling(PAY, W, (ANN, ANN), ANN), ((0,), (1,)))
        self.same(fewest_settling(PAY, W, (SUM, SUM, BOB), ANN), ((0, 2), (1, 2)))
        self.same(settled_by(PAY, W, (SUM, SUM), ANN), False)

    def test_together_only(self):
        self.same([settled_by(PAY, W, (SUM, BOB), ANN), settled_by(PAY, W, (SUM,), ANN), settled_by(PAY, W, (BOB,), ANN)],
                  [True, False, False])
        self.same(fewest_settling(PAY, W, (ANN, BOB), SUM), ((0, 1),))

    def test_fewer_worlds(self):
        self.same(settled_by(PAY, W[:5], (SUM,), ANN), False)
        self.same(settled_by(PAY, W[:3], (SUM,), BOB), True)
        self.same(settled_by(PAY, (W[0], W[4], W[8]), (SUM,), ANN), True)

    def test_five_asks(self):
        asks = (SUM, BOB, IS, ('-', ANN, BOB), ('if', ('=', BOB, 2), 1, 0))
        for ask in (ANN, BOB, SUM, ('*', ANN, BOB), PARITY, 4):
            self.same(fewest_settling(PAY, W, asks, ask), fewest_by_document(PAY, W, asks, ask))

    def test_as_the_document_says(self):
        maker = Maker(8)
        tried = 0
        while tried < 120:
            asks = tuple(maker.expression(N, maker.random.randrange(1, 3), ('ann', 'pay')) for _ in range(4))
            if any(wrong_by_document(ask, N, PAY) is not None for ask in asks):
                continue
            tried += 1
            asks, ask = (*asks, BOB)[maker.random.randrange(4):], maker.random.choice((asks[0], ANN, SUM, IS))
            worlds = tuple(sorted(maker.random.sample(W, maker.random.randrange(2, 10))))
            self.same(settled_by(PAY, worlds, asks, ask), settles_by_document(PAY, worlds, asks, ask))
            self.same(fewest_settling(PAY, worlds, asks, ask), fewest_by_document(PAY, worlds, asks, ask))

    def test_by_name(self):
        self.same(settled_by(house=PAY, worlds=W, asks=(SUM, BOB), ask=ANN), True)
        self.same(fewest_settling(ask=ANN, asks=(SUM, BOB), worlds=W, house=PAY), ((0, 1),))

    def test_unfit(self):
        for function in (settled_by, fewest_settling):
            for thing, path in UNFIT_ASKS:
                self.raises(UnfitExpression, [path], function, PAY, W, (), thing)
                self.raises(UnfitExpression, [path], function, PAY, W, (thing,), ANN)
                self.raises(UnfitExpression, [path], function, PAY, W, (SUM, thing, ('+', ('+', 1, True), 1)), True)
            self.raises(UnfitExpression, [(1, 2)], function, PAY, W, (SUM, ('+', ('+', 1, True), 1), True), True)
            self.raises(UnfitExpression, [(2,)], function, PAY, W, (SUM, ANN), ('+', 1, TOP[0]))
