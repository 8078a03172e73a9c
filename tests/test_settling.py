"""Settling papers and their checker: point 26."""

from mumhouse.errors import InvalidPaper, UnfitExpression
from mumhouse.knowing import settled_by
from mumhouse.settlingchecker import lets_settling
from mumhouse.settlingpapers import settling_paper
from tests.samples import ANN, BOB, PAY, SIXTY, SUM, W, Case
from tests.test_expressions import N, Maker, wrong_by_document
from tests.test_knowing import IS, UNFIT_ASKS

BOTH = (SUM, BOB)
NUMBERS = tuple((((a,), (b,)), a, b) for a in range(3) for b in range(3))
# The paper of SUM and BOB for ANN, by hand.
ROWS = tuple(sorted(((a + b, b), a) for _, a, b in NUMBERS))


class PaperTest(Case):
    def test_what_is_returned_is_accepted(self):
        maker = Maker(9)
        tried = 0
        while tried < 150:
            asks = tuple(maker.expression(N, maker.random.randrange(1, 3), ('ann', 'pay')) for _ in range(3))
            if any(wrong_by_document(ask, N, PAY) is not None for ask in asks):
                continue
            tried += 1
            asks, ask = (*asks, BOB)[maker.random.randrange(5):], maker.random.choice((asks[0], ANN, SUM, IS, 3))
            worlds = tuple(sorted(maker.random.sample(W, maker.random.randrange(1, 10))))
            paper = settling_paper(PAY, worlds, asks, ask)
            settled = settled_by(PAY, worlds, asks, ask)
            self.same(paper[0], 'settled' if settled else 'open')
            self.same(lets_settling(PAY, worlds, asks, ask, paper), settled)

    def test_forms(self):
        self.same(settling_paper(PAY, W, BOTH, ANN), ('settled', ROWS))
        self.same(settling_paper(house=PAY, worlds=W, asks=(), ask=3), ('settled', (((), 3),)))
        self.same(settling_paper(PAY, W, (('-', 0, ANN),), ANN), ('settled', (((-2,), 2), ((-1,), 1), ((0,), 0))))
        word, one, other = settling_paper(PAY, W, (SUM,), ANN)
        self.same([word, one in W, other in W, one == other], ['open', True, True, False])

    def test_unfit(self):
        for thing, path in UNFIT_ASKS:
            for function, more in ((settling_paper, ()), (lets_settling, (None,))):
                self.raises(UnfitExpression, [path], function, PAY, W, (), thing, *more)
                self.raises(UnfitExpression, [path], function, PAY, W, (ANN, thing, ('+', 1, True)), True, *more)
        self.raises(UnfitExpression, [(2,)], lets_settling, PAY, W, (ANN,), ('+', 1, True), ('settled', ROWS))


class CheckerTest(Case):
    def wrong(self, word, at, thing, asks=BOTH, ask=ANN, worlds=W):
        self.raises(InvalidPaper, [word, at], lets_settling, PAY, worlds, asks, ask, thing)

    def test_examples(self):
        self.same(lets_settling(PAY, W, (SUM,), ANN, ('open', ((0,), (1,)), ((1,), (0,)))), False)
        self.wrong('row', 6, ('settled', (((0,), 0), ((1,), 1))), (ANN,))

    def test_accepted(self):
        self.same(lets_settling(PAY, W, BOTH, ANN, ('settled', ROWS)), True)
        self.same(lets_settling(PAY, W, (), 3, ('settled', (((), 3),))), True)
        self.same(lets_settling(house=PAY, worlds=W, asks=(), ask=3, thing=('settled', (((), 3),))), True)
        self.same(lets_settling(PAY, W, (), ANN, ('open', W[0], W[8])), False)
        self.same(lets_settling(PAY, W, (SUM,), ANN, ('open', W[5], W[7])), False)
        self.same(lets_settling(PAY, W, (SUM,), ANN, ('open', W[7], W[5])), False)
        large = ('*', SIXTY, ANN)
        self.same(lets_settling(PAY, W, (ANN,), large, ('settled', (((0,), 0), ((1,), SIXTY), ((2,), 2 * SIXTY)))), True)

    def test_shape(self):
        for thing in (None, True, 0, '', 'settled', 'open', (), [], ('settled',), ('open',), ('settled', ROWS, ()), ['settled', ROWS],
                      ('open', W[0]), ('open', W[0], W[1], W[2]), ['open', W[0], W[1]], ('settled', list(ROWS)),
                      ('settled', None), ('settled', 0), ('settled', ''), ('Settled', ROWS), ('open', ROWS), ('', ROWS),
                      (True, ROWS), (('settled',), ROWS), ('closed', W[0], W[1]), ('settled', W[0], W[1]), ('', '', ''),
                      ('settled', W)):
            self.wrong('shape', -1, thing)
        for row in (None, 0, True, '', 'ab', (), ((0, 0),), ((0, 0), 0, 0), [(0, 0), 0], ([0, 0], 0), ((0, True), 0),
                    ((False, 0), 0), ((0, 0), False), ((0, 0), True), ((0, 0), None), ((0, 0), '0'), ((0, '0'), 0),
                    (((0,), 0), 0), (0, 0), (None, 0), ('', 0), ((0, 0), (0,))):
            self.wrong('shape', -1, ('settled', (row,)))
            self.wrong('shape', -1, ('settled', (*ROWS, row)))
            self.wrong('shape', -1, ('settled', (ROWS[1], ROWS[0], row)))

    def test_rise(self):
        for k in range(1, len(ROWS)):
            exchanged = (*ROWS[:k - 1], ROWS[k], ROWS[k - 1], *ROWS[k + 1:])
            self.wrong('rise', k, ('settled', exchanged))
            self.wrong('rise', k, ('settled', (*ROWS[:k], ROWS[k - 1], *ROWS[k:])))
            self.wrong('rise', k, ('settled', (*ROWS[:k], (ROWS[k - 1][0], 7), *ROWS[k:])))
        self.wrong('rise', 1, ('settled', (((0, 0, 0), 0), ((0, 0), 0))))
        self.wrong('rise', 1, ('settled', (((0, 0), 0), ((), 0))))
        # All rows rise before any world is looked at; only the values have to rise.
        self.wrong('rise', 9, ('settled', (*ROWS[:3], (ROWS[3][0], 7), *ROWS[4:], ((0, 9), 0))))

    def test_row(self):
        for k, (values, _) in enumerate(ROWS):
            n = next(n for n, (_, a, b) in enumerate(NUMBERS) if (a + b, b) == values)
            self.wrong('row', n, ('settled', (*ROWS[:k], *ROWS[k + 1:])))
            self.wrong('row', n, ('settled', (*ROWS[:k], ((*values, 0), 0), *ROWS[k + 1:])))
            self.wrong('row', n, ('settled', tuple(sorted((*ROWS[:k], (values[:1], 0), *ROWS[k + 1:])))))
        self.wrong('row', 0, ('settled', ()))
        self.wrong('row', 0, ('settled', ()), (), 3)
        self.wrong('row', 0, ('settled', (((0,), 3),)), (), 3)

    def test_value(self):
        for k, (values, value) in enumerate(ROWS):
            n = next(n for n, (_, a, b) in enumerate(NUMBERS) if (a + b, b) == values)
            for other in (value + 1, -value - 1, SIXTY):
                self.wrong('value', n, ('settled', (*ROWS[:k], (values, other), *ROWS[k + 1:])))
        self.wrong('value', 3, ('settled', (((0,), 0), ((1,), 0), ((2,), 0), ((3,), 0), ((4,), 0))), (SUM,))
        self.wrong('value', 1, ('settled', (((0,), 0), ((1,), 1), ((2,), 0), ((3,), 0), ((4,), 0))), (SUM,))

    def test_idle(self):
        for values in ((-1, 0), (0, 1), (0, 0, 0), (), (1,), (9, 9)):
            rows = tuple(sorted((*ROWS, (values, 0))))
            self.wrong('idle', rows.index((values, 0)), ('settled', rows))
        rows = tuple(sorted((*ROWS, ((0, 5), 0), ((3, 0), 0))))
        self.wrong('idle', rows.index(((0, 5), 0)), ('settled', rows))
        self.wrong('idle', 0, ('settled', (((-1,), 3), ((0,), 3), ((1,), 3))), (ANN,), 3, W[:3])

    def test_several_at_once(self):
        # World by world: the first world with either of the two comes before the next one.
        rows = (((0,), 7), ((1,), 1))
        self.wrong('value', 0, ('settled', rows), (ANN,))
        rows = (((0,), 0), ((2,), 7), ((5,), 0))
        self.wrong('row', 3, ('settled', rows), (ANN,))
        rows = (((0,), 0), ((1,), 7), ((5,), 0))
        self.wrong('value', 3, ('settled', rows), (ANN,))
        rows = (((-5,), 0), ((0,), 0), ((1,), 1))
        self.wrong('row', 6, ('settled', rows), (ANN,))

    def test_open_worlds(self):
        house = (*PAY[:2], (('<', SUM, 2),))
        worlds = tuple(world for world in W if sum(row[0] for row in world) < 2)
        for thing in (None, True, 0, '', (), [], ((0,),), ((0,), (3,)), ((0,), (True,)), ((False,), (1,)), ((0,), [1]), [(0,), (1,)],
                      ((0,), (1,), (0,)), ((0, 0), (1,)), (0, 1), ((0,), ('1',)), ((-1,), (0,)), W):
            self.wrong('world', 0, ('open', thing, W[3]), (SUM,))
            self.wrong('world', 1, ('open', W[3], thing), (SUM,))
            self.wrong('world', 0, ('open', thing, thing), (SUM,))
        self.same(lets_settling(house, worlds, (SUM,), ANN, ('open', worlds[1], worlds[2])), False)
        self.raises(InvalidPaper, ['world', 0], lets_settling, house, worlds, (SUM,), ANN, ('open', W[2], W[4]))
        self.raises(InvalidPaper, ['world', 1], lets_settling, house, worlds, (SUM,), ANN, ('open', W[1], W[4]))

    def test_open_asks(self):
        self.wrong('asks', 0, ('open', W[0], W[1]), (SUM,))
        self.wrong('asks', 1, ('open', W[1], W[3]), (SUM, BOB))
        self.wrong('asks', 0, ('open', W[1], W[3]), (BOB, SUM))
        self.wrong('asks', 2, ('open', W[1], W[3]), (3, SUM, BOB, ANN))
        self.wrong('asks', 0, ('open', W[0], W[8]), BOTH, 3)

    def test_open_same(self):
        self.wrong('same', -1, ('open', W[2], W[2]), (SUM,))
        self.wrong('same', -1, ('open', W[0], W[8]), (), 3)
        self.wrong('same', -1, ('open', W[1], W[3]), (SUM,), ('*', ANN, BOB))
        self.wrong('same', -1, ('open', W[0], W[1]), (ANN,), ANN)

    def test_one_form_only(self):
        for asks, ask in ((BOTH, ANN), ((SUM,), ANN), ((), 3), ((ANN,), IS), ((IS,), ANN)):
            papers = [('open', one, other) for one in W for other in W]
            accepted = 0
            for paper in papers:
                try:
                    accepted += lets_settling(PAY, W, asks, ask, paper) is False
                except InvalidPaper:
                    pass
            self.same(accepted > 0, not settled_by(PAY, W, asks, ask))
