"""Mum papers and their checker: points 38 and 39."""

from mumhouse.errors import InvalidPaper
from mumhouse.halls import Hall
from mumhouse.mumchecker import lets_mum
from mumhouse.mumness import is_mum
from mumhouse.mumpapers import mum_paper
from mumhouse.values import is_true
from tests import reference
from tests.samples import ANN, ANY, BOB, PAY, SCENE, SIXTY, SUM, SUMS, TOP, W, Case

HALL = Hall(SCENE)
ALONE = ((0,), (1,), (2,))
TOLD = HALL.with_permit('x', SUM, SUMS)
BOTH = TOLD.with_permit('y', BOB, ALONE)
# Two secrets, the second one known to y; x may learn the pay of bob.
PAIR = HALL.with_secret(('<', 3, SUM), 'y').with_permit('x', ('if', ('=', BOB, 2), 1, 0), ((0,), (1,)))
# The paper of PAIR, by hand: x has the views "bob has not 2" and "bob has 2".
ROWS = (((), 0, W[0], W[0]), ((), 1, W[0], W[7]), (('x',), 0, W[0], W[1]), (('x',), 0, W[2], W[5]), (('x',), 1, W[0], W[0]),
        (('x',), 1, W[2], W[2]), (('y',), 0, W[0], W[3]))


def falses(hall, k, worlds):
    return [world for world in worlds if not is_true(hall.scene[0], world, hall.scene[2][k][0])]


class PaperTest(Case):
    def test_what_is_returned_is_accepted(self):
        maker = reference.HallMaker(91)
        for _ in range(150):
            hall = maker.hall(4)
            mum = reference.mum(reference.plain(hall))
            paper = mum_paper(hall)
            self.same(paper[0], 'mum' if mum else 'tells')
            self.same(lets_mum(hall, paper), mum)
            if mum:
                self.same([row[:3] for row in paper[1]],
                          sorted((few, k, some[0]) for few, k, some in reference.due(reference.plain(hall))))

    def test_forms(self):
        self.same(mum_paper(Hall((PAY, ('x',), (), 1))), ('mum', ()))
        self.same(mum_paper(hall=Hall((PAY, (), (TOP,), 0), W[:1])), ('mum', (((), 0, W[0], W[0]),)))
        self.same(mum_paper(Hall((PAY, (), (TOP,), 0), W[7:])), ('tells', (), 0, W[7]))


class CheckerTest(Case):
    def wrong(self, word, at, thing, hall=PAIR):
        self.raises(InvalidPaper, [word, at], lets_mum, hall, thing)

    def test_examples(self):
        self.same(lets_mum(HALL(SUM, (4,)), ('tells', (), 0, ((2,), (2,)))), False)
        self.wrong('false', -1, ('tells', (), 0, ((2,), (2,))), HALL)

    def test_accepted(self):
        self.same(lets_mum(PAIR, ('mum', ROWS)), True)
        self.same(lets_mum(thing=('mum', ()), hall=Hall((PAY, ('x',), (), 1))), True)
        self.same(lets_mum(BOTH.with_few(2), ('tells', ('x', 'y'), 0, W[6])), False)
        self.same(lets_mum(BOTH.with_few(2), ('tells', ('x', 'y'), 0, W[7])), False)
        told = HALL(SUM, (2, 4)).with_permit('x', SUM, ((2,), (4,)))
        self.same(lets_mum(told, ('tells', ('x',), 0, W[8])), False)
        # Any world of the view will do in either form.
        behind = HALL(ANN, (2,))
        for world in behind.worlds:
            self.same(lets_mum(behind, ('tells', ('y',), 0, world)), False)
        for n, (few, k, world, _) in enumerate(ROWS):
            view = reference.view(reference.plain(PAIR), few, world)
            for other in falses(PAIR, k, view):
                self.same(lets_mum(PAIR, ('mum', (*ROWS[:n], (few, k, world, other), *ROWS[n + 1:]))), True)

    def test_shape(self):
        for thing in (*ANY, 0, 'mum', ('mum',), ('tells',), ('mum', None), ('mum', list(ROWS)), ('mum', ''), ['mum', ROWS],
                      ('mum', ROWS, ()), ('mum', ROWS, (), ()), ('tells', ROWS), ('tells', (), 0), ('tells', (), 0, W[0], 0),
                      ['tells', (), 0, W[0]], ('Mum', ROWS), ('', ROWS), (True, ROWS), ('told', (), 0, W[0]),
                      ('mum', (), 0, W[0]), (('tells',), (), 0, W[0]), ('apart', ROWS)):
            self.wrong('shape', -1, thing)
        for row in (*ANY, 0, ROWS[0][:3], (*ROWS[0], 0), list(ROWS[0]), 'four'):
            self.wrong('shape', -1, ('mum', (row,)))
            self.wrong('shape', -1, ('mum', (*ROWS, row)))
            self.wrong('shape', -1, ('mum', (None, *ROWS[1:], row)))

    def test_row(self):
        self.wrong('row', 0, ('mum', ()))
        for n in range(len(ROWS)):
            self.wrong('row', n, ('mum', ROWS[:n]))
            self.wrong('row', n, ('mum', (*ROWS[:n], *ROWS[n + 1:])))
            few, k, world, other = ROWS[n]
            for row in (((*few, 'z'), k, world, other), (list(few), k, world, other), (None, k, world, other), (few, k + 5, world, other),
                        (few, -1, world, other), (few, bool(k), world, other), (few, None, world, other), (few, k, W[8], other),
                        (few, k, list(world), other), (few, k, None, other), (few, k, ((0,), (False,)), other),
                        (few, k, ([0], (0,)), other), (k, few, world, other)):
                self.wrong('row', n, ('mum', (*ROWS[:n], row, *ROWS[n + 1:])))
        for n in range(1, len(ROWS)):
            self.wrong('row', n - 1, ('mum', (*ROWS[:n - 1], ROWS[n], ROWS[n - 1], *ROWS[n + 1:])))
            self.wrong('row', n, ('mum', (*ROWS[:n], ROWS[n - 1], *ROWS[n:])))

    def test_world(self):
        for n, (few, k, world, _) in enumerate(ROWS):
            view = reference.view(reference.plain(PAIR), few, world)
            for other in (*ANY, 0, ((0,), (3,)), ((0,), (False,)), [(0,), (0,)], ((0,),), *[some for some in W if some not in view]):
                self.wrong('world', n, ('mum', (*ROWS[:n], (few, k, world, other), *ROWS[n + 1:])))

    def test_true(self):
        for n, (few, k, world, _) in enumerate(ROWS):
            view = reference.view(reference.plain(PAIR), few, world)
            for other in set(view) - set(falses(PAIR, k, view)):
                self.wrong('true', n, ('mum', (*ROWS[:n], (few, k, world, other), *ROWS[n + 1:])))

    def test_many(self):
        self.wrong('many', -1, ('mum', (*ROWS, ROWS[-1])))
        self.wrong('many', -1, ('mum', (*ROWS, (0, 0, 0, 0), (1, 1, 1, 1))))
        self.wrong('many', -1, ('mum', (((), 0, W[0], W[0]),)), Hall((PAY, ('x',), (), 1)))

    def test_a_mum_paper_of_a_hall_that_tells(self):
        hall = HALL(SUM, (4,))
        self.wrong('true', 0, ('mum', (((), 0, W[8], W[8]), (('x',), 0, W[8], W[8]), (('y',), 0, W[8], W[8]))), hall)

    def test_rows_one_by_one(self):
        rows = [ROWS[0], (*ROWS[1][:3], W[8]), (*ROWS[2][:3], None), None]
        self.wrong('shape', -1, ('mum', tuple(rows)))
        rows[3] = (0, 0, 0, 0)
        self.wrong('true', 1, ('mum', tuple(rows)))
        rows[1] = ROWS[1]
        self.wrong('world', 2, ('mum', tuple(rows)))
        rows[2] = ROWS[2]
        self.wrong('row', 3, ('mum', tuple(rows)))

    def test_few(self):
        for few in (*ANY, 0, ['x'], ('z',), ('x', 'z'), ('x', 'x'), ('y', 'x'), ('x', 'y'), 'x', ('x', True), ('X',)):
            if few != ():
                self.wrong('few', -1, ('tells', few, 0, W[6]), HALL)
        self.wrong('few', -1, ('tells', ('y', 'x'), 0, W[6]), BOTH.with_few(2))
        self.wrong('few', -1, ('tells', ('x', 'x'), 0, W[6]), BOTH.with_few(2))
        self.wrong('few', -1, ('tells', ('x',), 0, W[6]), HALL.with_few(0))
        self.wrong('few', -1, ('tells', ('x', 'y'), 0, W[6]), BOTH)

    def test_secret(self):
        for k in (*ANY, -1, 2, SIXTY, '0', (0,)):
            self.wrong('secret', -1, ('tells', (), k, W[8]))
        self.wrong('secret', -1, ('tells', ('y',), 1, W[8]))
        self.wrong('secret', -1, ('tells', ('x', 'y'), 1, W[8]), PAIR.with_few(2))
        self.wrong('false', -1, ('tells', ('x',), 1, W[8]))
        self.wrong('secret', -1, ('tells', (), 0, W[8]), HALL.without_secret(0))

    def test_tells_world(self):
        for thing in (*ANY, 0, ((0,), (3,)), ((2,), (True,)), [(2,), (0,)], W):
            self.wrong('world', -1, ('tells', ('x',), 0, thing))
        self.wrong('world', -1, ('tells', (), 0, W[0]), HALL(SUM, (4,)))

    def test_false(self):
        for world in W:
            for few in ((), ('x',), ('y',)):
                self.wrong('false', -1, ('tells', few, 0, world), HALL)
        self.wrong('false', -1, ('tells', ('x', 'y'), 0, W[8]), BOTH.with_few(2))
        self.wrong('false', -1, ('tells', ('x',), 0, W[6]), BOTH.with_few(2))

    def test_several_at_once(self):
        self.wrong('few', -1, ('tells', ('z',), True, None))
        self.wrong('secret', -1, ('tells', ('x',), True, None))
        self.wrong('world', -1, ('tells', ('x',), 0, None))

    def test_exactly_one_form(self):
        maker = reference.HallMaker(92)
        for _ in range(40):
            hall = maker.hall()
            accepted = []
            for few in reference.fews(reference.plain(hall)):
                for k in range(len(hall.scene[2])):
                    for world in hall.worlds:
                        try:
                            accepted.append(lets_mum(hall, ('tells', few, k, world)))
                        except InvalidPaper:
                            pass
            self.same(accepted == [], is_mum(hall))
