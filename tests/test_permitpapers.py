"""Permit papers and their checker: point 55."""

from mumhouse.errors import InvalidGrouping, InvalidPaper, UnfitExpression, UnknownAsker
from mumhouse.halls import Hall
from mumhouse.mumpapers import mum_paper
from mumhouse.permitchecker import lets_permit
from mumhouse.permitpapers import permit_paper
from mumhouse.permitting import finest_permits, is_mum_alone
from tests import reference
from tests.samples import (ANN, ANY, BOB, SCENE, SIXTY, SUM, SUMS, W, WRONG_DIVISIONS, WRONG_VALUES, Case,
                           divisions, with_item)
from tests.test_groupings import partitions
from tests.test_halls import NO_ASKERS
from tests.test_knowing import UNFIT_ASKS
from tests.test_views import WRONG_SHAPES

HALL = Hall(SCENE)
TOLD = HALL.with_permit('x', SUM, SUMS)
TWO = TOLD.with_few(2)
NOT_MUM = HALL(SUM, (4,))
ALONE = ((0,), (1,), (2,))
FIVE = ((0,), (1,), (2,), (3,), (4,))
TOLD_FOUR = ('tells', ('x',), 0, W[8])
# A finest paper of a permit of SUMS for x: of 3 and 4 one cannot be divided from the other.
FINEST = permit_paper(HALL, 'x', SUM, SUMS)
# A grouping that is mum alone, but not finest, and its paper.
COARSE = ((0,), (1, 2, 3, 4))
FINER = ('finer', 1, ((1, 2), (3, 4)), mum_paper(HALL.with_permit('x', SUM, ((0,), (1, 2), (3, 4)))))
# A permit with one group of three values, none of which can be divided from the others.
THREE = permit_paper(TWO, 'y', BOB, ((0, 1, 2),))


class PaperTest(Case):
    def test_what_is_returned_is_accepted(self):
        maker = reference.HallMaker(161)
        words = {}
        for _ in range(60):
            hall, ask = maker.hall(2), maker.ask()
            values = reference.values(reference.plain(hall), ask)
            if len(values) > 4 or not hall.scene[1]:
                continue
            asker = maker.random.choice(hall.scene[1])
            finest = finest_permits(hall, asker, ask)
            for grouping in partitions(values):
                paper = permit_paper(hall, asker, ask, grouping)
                self.same(lets_permit(hall, asker, ask, grouping, paper), paper[0])
                mum = is_mum_alone(hall, asker, ask, grouping)
                self.same(paper[0], 'finest' if grouping in finest else 'finer' if mum else 'tells')
                words[paper[0]] = words.get(paper[0], 0) + 1
        self.same(sorted(words), ['finer', 'finest', 'tells'])

    def test_forms(self):
        self.same(FINEST, ('finest', mum_paper(HALL.with_permit('x', SUM, SUMS)), ((), (), (), (TOLD_FOUR,))))
        self.same(permit_paper(ask=SUM, grouping=COARSE, hall=HALL, asker='x')[:2], ('finer', 1))
        self.same(permit_paper(HALL, 'x', SUM, FIVE), ('tells', TOLD_FOUR))
        self.same(permit_paper(NOT_MUM, 'x', 7, ((7,),))[0], 'tells')
        self.same([THREE[0], len(THREE[2][0])], ['finest', 3])

    def test_exactly_one_form(self):
        # The division of another group is no way out: a permit is mum or not as a whole.
        grouping = ((0, 1), (2,), (3,), (4,))
        self.same(permit_paper(HALL, 'x', SUM, grouping)[0], 'tells')
        paper = ('finer', 0, ((0,), (1,)), mum_paper(HALL))
        self.raises(InvalidPaper, ['paper', -1], lets_permit, HALL, 'x', SUM, grouping, paper)

    def test_errors(self):
        for hall in (HALL, NOT_MUM):
            for asker in NO_ASKERS:
                self.raises(UnknownAsker, [asker], permit_paper, hall, asker, True, None)
                self.raises(UnknownAsker, [asker], lets_permit, hall, asker, True, None, None)
            for thing, path in UNFIT_ASKS:
                self.raises(UnfitExpression, [path], permit_paper, hall, 'x', thing, None)
                self.raises(UnfitExpression, [path], lets_permit, hall, 'x', thing, None, None)
            for grouping in WRONG_SHAPES:
                self.raises(InvalidGrouping, ['shape', -1], permit_paper, hall, 'x', ANN, grouping)
                self.raises(InvalidGrouping, ['shape', -1], lets_permit, hall, 'x', ANN, grouping, None)
            for grouping in WRONG_VALUES:
                self.raises(InvalidGrouping, ['values', -1], permit_paper, hall, 'x', ANN, grouping)
                self.raises(InvalidGrouping, ['values', -1], lets_permit, hall, 'x', ANN, grouping, None)


class CheckerCase(Case):
    def wrong(self, word, at, thing, grouping=SUMS, ask=SUM, hall=HALL, asker='x'):
        self.raises(InvalidPaper, [word, at], lets_permit, hall, asker, ask, grouping, thing)


class ShapeTest(CheckerCase):
    def test_example(self):
        self.same(lets_permit(TWO, 'y', BOB, ((0,), (1,), (2,)), ('tells', ('tells', ('x', 'y'), 0, ((2,), (0,))))), 'tells')

    def test_shape(self):
        _, paper, rows = FINEST
        for thing in (*ANY, 0, SIXTY, 'finest', ('finest',), ('finest', paper), (*FINEST, ()), list(FINEST),
                      ('Finest', paper, rows),
                      (True, paper, rows), (('finest',), paper, rows), ('finer', paper, rows), ('tells', paper, rows),
                      ('mum', rows), HALL,
                      ('finest', paper, list(rows)), ('finest', paper, None), ('finest', paper, ''), ('finest', paper, 0),
                      ('tells',),
                      ('Tells', TOLD_FOUR), ['tells', TOLD_FOUR], ('finest', TOLD_FOUR), TOLD_FOUR, mum_paper(HALL),
                      ('tells', 4, TOLD_FOUR)):
            self.wrong('shape', -1, thing)
        for row in (*ANY, 0, [TOLD_FOUR], 'a'):
            if not isinstance(row, tuple):
                for k in range(4):
                    self.wrong('shape', -1, ('finest', paper, with_item(rows, k, row)))
                self.wrong('shape', -1, ('finest', None, (*rows, row)))
        for n in (*ANY, -1, -2, '1', (1,), [1]):
            self.wrong('shape', -1, with_item(FINER, 1, n), COARSE)
        for thing in (FINER[:3], (*FINER, ()), list(FINER), ('Finer', *FINER[1:]), ('finest', *FINER[1:]), ('tells', *FINER[1:]),
                      (None, *FINER[1:])):
            self.wrong('shape', -1, thing, COARSE)


class FinestTest(CheckerCase):
    def test_accepted(self):
        self.same(lets_permit(HALL, 'x', SUM, SUMS, FINEST), 'finest')
        self.same(lets_permit(thing=THREE, grouping=((0, 1, 2),), ask=BOB, asker='y', hall=TWO), 'finest')
        whole = permit_paper(HALL, 'x', BOB, ALONE)
        self.same(lets_permit(HALL, 'x', BOB, ALONE, ('finest', mum_paper(HALL.with_permit('x', BOB, ALONE)), ((), (), ()))),
                  'finest')
        self.same(whole[2], ((), (), ()))

    def test_paper(self):
        _, _, rows = FINEST
        for paper in (*ANY, 0, TOLD_FOUR, mum_paper(HALL), mum_paper(TWO), list(FINEST[1]), ('mum', ()),
                      ('mum', FINEST[1][1][:-1]),
                      ('mum', FINEST[1][1][::-1]), mum_paper(HALL.with_permit('y', SUM, SUMS)), FINEST):
            self.wrong('paper', -1, ('finest', paper, rows))
        self.wrong('paper', -1, ('finest', TOLD_FOUR, ((),) * 5), FIVE)

    def test_many(self):
        _, paper, rows = FINEST
        for k in range(4):
            self.wrong('many', -1, ('finest', paper, rows[:k]))
        self.wrong('many', -1, ('finest', paper, (*rows, ())))
        self.wrong('many', -1, ('finest', paper, ()))

    def test_divisions(self):
        _, paper, rows = FINEST
        for n in range(3):
            self.wrong('divisions', n, ('finest', paper, with_item(rows, n, rows[3])))
        self.wrong('divisions', 3, ('finest', paper, ((),) * 4))
        self.wrong('divisions', 3, ('finest', paper, ((), (), (), rows[3] * 2)))
        self.wrong('divisions', 0, ('finest', paper, rows[::-1]))
        row = THREE[2][0]
        for some in ((), row[:1], row[:2], (*row, row[2])):
            self.wrong('divisions', 0, ('finest', THREE[1], (some,)), ((0, 1, 2),), BOB, TWO, 'y')

    def test_division(self):
        _, paper, _ = FINEST
        for some in (*ANY, 0, list(TOLD_FOUR), ('tells', ('x',), 0, W[7]), ('tells', ('y',), 0, W[8]), ('tells', (), 0, W[8]),
                     ('tells', ('x',), 1, W[8]), paper, (1, TOLD_FOUR)):
            self.wrong('division', (3, 0), ('finest', paper, ((), (), (), (some,))))

    def test_division_by_division(self):
        row = THREE[2][0]
        self.same([one for one, _ in divisions((0, 1, 2))], [(0,), (0, 1), (0, 2)])
        for d in range(3):
            for some in (None, THREE[1], ('tells', ('y',), 0, W[6]), ('tells', ('x', 'y'), 0, W[0])):
                self.wrong('division', (0, d), ('finest', THREE[1], (with_item(row, d, some),)), ((0, 1, 2),), BOB, TWO, 'y')
        # With 0 against 1 and 2 the two know it in the worlds (2, 0), and with 0 and 1 against 2 in (2, 2) and (2, 1).
        papers = {world: ('tells', ('x', 'y'), 0, world) for world in W[6:]}
        for d, (one, other) in enumerate(divisions((0, 1, 2))):
            hall = TWO.with_permit('y', BOB, tuple(sorted((one, other))))
            for world in W[6:]:
                told = all(some[0] == (2,) for some in hall.view(('x', 'y'), world))
                thing = ('finest', THREE[1], (with_item(row, d, papers[world]),))
                if told:
                    self.same(lets_permit(TWO, 'y', BOB, ((0, 1, 2),), thing), 'finest')
                else:
                    self.wrong('division', (0, d), thing, ((0, 1, 2),), BOB, TWO, 'y')

    def test_several_at_once(self):
        _, paper, rows = FINEST
        self.wrong('shape', -1, ('finest', None, (None,)))
        self.wrong('paper', -1, ('finest', None, ()))
        self.wrong('many', -1, ('finest', paper, (rows[3], rows[3])))
        self.wrong('divisions', 1, ('finest', paper, ((), rows[3], (), (None,))))
        self.wrong('divisions', 2, ('finest', paper, ((), (), rows[3], ())))
        hall = HALL.with_secret(('=', ANN, 0))
        ask = ('+', ANN, ('if', ('=', BOB, 2), 3, 0))
        grouping = ((0, 2), (1,), (3, 5), (4,))
        right = permit_paper(hall, 'x', ask, grouping)
        self.same(right[0], 'finest')
        bad = with_item(with_item(right[2], 0, (None,)), 2, ())
        self.wrong('division', (0, 0), ('finest', right[1], bad), grouping, ask, hall)
        self.wrong('divisions', 2, ('finest', right[1], with_item(bad, 0, right[2][0])), grouping, ask, hall)


class FinerTest(CheckerCase):
    def test_accepted(self):
        self.same(lets_permit(HALL, 'x', SUM, COARSE, FINER), 'finer')
        for division in divisions((1, 2, 3, 4)):
            grouping = tuple(sorted(((0,), *division)))
            thing = ('finer', 1, division, mum_paper(HALL.with_permit('x', SUM, grouping)))
            if (4,) in division:
                self.wrong('paper', -1, thing, COARSE)
            else:
                self.same(lets_permit(HALL, 'x', SUM, COARSE, thing), 'finer')

    def test_the_parts_stand_in_the_order_of_a_grouping(self):
        paper = mum_paper(HALL.with_permit('x', SUM, ((0, 4), (1,), (2,), (3,))))
        self.same(lets_permit(HALL, 'x', SUM, ((0, 2, 4), (1,), (3,)), ('finer', 0, ((0, 4), (2,)), paper)), 'finer')

    def test_number(self):
        for n in (2, 3, 5, SIXTY):
            self.wrong('number', -1, with_item(FINER, 1, n), COARSE)

    def test_division(self):
        for division in (*ANY, *WRONG_DIVISIONS):
            self.wrong('division', -1, with_item(FINER, 2, division), COARSE)
        self.wrong('division', -1, with_item(FINER, 1, 0), COARSE)

    def test_paper(self):
        for paper in (*ANY, 0, TOLD_FOUR, list(FINER[3]), ('mum', ()), mum_paper(HALL), FINEST[1], (FINER[3],)):
            self.wrong('paper', -1, with_item(FINER, 3, paper), COARSE)
        self.wrong('paper', -1, with_item(FINER, 2, ((1, 3), (2, 4))), COARSE)

    def test_several_at_once(self):
        self.wrong('shape', -1, ('finer', True, None, None), COARSE)
        self.wrong('number', -1, ('finer', 9, None, None), COARSE)
        self.wrong('division', -1, ('finer', 1, None, None), COARSE)
        self.wrong('paper', -1, ('finer', 1, FINER[2], None), COARSE)


class TellsTest(CheckerCase):
    def test_accepted(self):
        self.same(lets_permit(HALL, 'x', SUM, FIVE, ('tells', TOLD_FOUR)), 'tells')
        for world in W[6:]:
            self.same(lets_permit(HALL, 'y', ANN, ALONE, ('tells', ('tells', ('y',), 0, world))), 'tells')

    def test_paper(self):
        for paper in (*ANY, 0, list(TOLD_FOUR), TOLD_FOUR[:3], ('tells', (), 0, W[8]), ('tells', ('y',), 0, W[8]),
                      ('tells', ('x',), 0, W[7]),
                      ('tells', ('x',), 1, W[8]), ('tells', ('z',), 0, W[8]), ('mum', ()), FINEST[1], mum_paper(HALL),
                      ('tells', TOLD_FOUR)):
            self.wrong('paper', -1, ('tells', paper), FIVE)
        self.wrong('paper', -1, ('tells', TOLD_FOUR), SUMS)
        self.wrong('paper', -1, ('tells', FINEST[1]), SUMS)
