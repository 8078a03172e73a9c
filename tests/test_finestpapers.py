"""Finest papers and their checker: points 44, 45 and 46."""

from mumhouse.errors import InvalidGrouping, InvalidPaper, UnfitExpression
from mumhouse.finest import finest_groupings
from mumhouse.finestchecker import lets_finest
from mumhouse.finestpapers import finest_paper
from mumhouse.halls import Hall
from mumhouse.mumpapers import mum_paper
from tests import reference
from tests.samples import (ALWAYS, ANN, ANY, BOB, SCENE, SIXTY, SUM, SUMS, W, WRONG_DIVISIONS, WRONG_VALUES, Case,
                           divisions, with_item)
from tests.test_groupings import partitions
from tests.test_knowing import UNFIT_ASKS
from tests.test_views import WRONG_SHAPES

HALL = Hall(SCENE)
NOT_MUM = HALL(SUM, (4,))
ALONE = ((0,), (1,), (2,))
FIVE = ((0,), (1,), (2,), (3,), (4,))
# A finest paper of SUMS: of 3 and 4 one cannot be divided from the other.
FINEST = finest_paper(HALL, SUM, SUMS)
TOLD_FOUR = ('tells', (), 0, W[8])
# A grouping that is mum, but not finest, and its paper.
COARSE = ((0,), (1, 2, 3, 4))
FINER = ('finer', 1, ((1, 2), (3, 4)), (mum_paper(HALL(SUM, (1, 2))), mum_paper(HALL(SUM, (3, 4)))))
# A group of three values, none of which can be divided from the others.
TRIPLE = HALL.with_secret(('=', ANN, 0)).with_secret(('=', ANN, 1))
THREE = finest_paper(TRIPLE, ANN, ((0, 1, 2),))


class PaperTest(Case):
    def test_what_is_returned_is_accepted(self):
        maker = reference.HallMaker(141)
        words = {}
        for _ in range(60):
            hall, ask = maker.hall(2), maker.ask()
            plain = reference.plain(hall)
            values = reference.values(plain, ask)
            if len(values) > 4:
                continue
            finest = finest_groupings(hall, ask)
            for grouping in partitions(values):
                paper = finest_paper(hall, ask, grouping)
                self.same(lets_finest(hall, ask, grouping, paper), paper[0])
                mum = reference.mum_aloud(plain, ask, grouping)
                self.same(paper[0], 'finest' if grouping in finest else 'finer' if mum else 'tells')
                words[paper[0]] = words.get(paper[0], 0) + 1
        self.same(sorted(words), ['finer', 'finest', 'tells'])

    def test_forms(self):
        self.same(FINEST, ('finest', tuple(mum_paper(HALL(SUM, group)) for group in SUMS), ((), (), (), ((1, TOLD_FOUR),))))
        self.same(finest_paper(ask=SUM, grouping=COARSE, hall=HALL)[:2], ('finer', 1))
        self.same(finest_paper(HALL, SUM, FIVE), ('tells', 4, TOLD_FOUR))
        self.same(finest_paper(HALL, ANN, ALONE)[:2], ('tells', 2))
        self.same(finest_paper(NOT_MUM, 7, ((7,),)), ('tells', 0, TOLD_FOUR))
        self.same([THREE[0], [side for side, _ in THREE[2][0]]], ['finest', [0, 1, 1]])

    def test_unfit(self):
        for hall in (HALL, NOT_MUM):
            for thing, path in UNFIT_ASKS:
                self.raises(UnfitExpression, [path], finest_paper, hall, thing, None)
                self.raises(UnfitExpression, [path], lets_finest, hall, thing, None, None)
            for grouping in WRONG_SHAPES:
                self.raises(InvalidGrouping, ['shape', -1], finest_paper, hall, ANN, grouping)
                self.raises(InvalidGrouping, ['shape', -1], lets_finest, hall, ANN, grouping, None)
            for grouping in WRONG_VALUES:
                self.raises(InvalidGrouping, ['values', -1], finest_paper, hall, ANN, grouping)
                self.raises(InvalidGrouping, ['values', -1], lets_finest, hall, ANN, grouping, None)


class CheckerCase(Case):
    def wrong(self, word, at, thing, grouping=SUMS, ask=SUM, hall=HALL):
        self.raises(InvalidPaper, [word, at], lets_finest, hall, ask, grouping, thing)


class ShapeTest(CheckerCase):
    def test_examples(self):
        self.same(lets_finest(HALL, SUM, ((0,), (1,), (2,), (3,), (4,)), ('tells', 4, ('tells', (), 0, ((2,), (2,))))), 'tells')
        self.wrong('group', -1, ('tells', 3, ('tells', (), 0, ((2,), (2,)))))

    def test_shape(self):
        _, papers, rows = FINEST
        for thing in (*ANY, 0, SIXTY, 'finest', ('finest',), ('finest', papers), ('finest', papers, rows, ()), list(FINEST),
                      ('Finest', papers, rows), (True, papers, rows), (('finest',), papers, rows), ('tells', papers),
                      ('tells', 4),
                      ('tells', 4, TOLD_FOUR, ()), ['tells', 4, TOLD_FOUR], ('mum', papers), ('finer', papers, rows), HALL,
                      ('finest', list(papers), rows), ('finest', None, rows), ('finest', '', rows),
                      ('finest', papers, list(rows)),
                      ('finest', papers, None), ('finest', papers, 0), ('finest', papers, ''), TOLD_FOUR, mum_paper(HALL)):
            self.wrong('shape', -1, thing)
        for row in (*ANY, 0, [(1, TOLD_FOUR)], ((1,),), ((1, TOLD_FOUR, 0),), ([1, TOLD_FOUR],), (None,), ('ab',),
                    ((1, TOLD_FOUR), 0)):
            if row != ():
                for k in range(4):
                    self.wrong('shape', -1, ('finest', papers, with_item(rows, k, row)))
                self.wrong('shape', -1, ('finest', (), (*rows, row)))
        for thing in (*ANY, 0, FINER[3][:1], (*FINER[3], ()), list(FINER[3]), 'ab'):
            self.wrong('shape', -1, (*FINER[:3], thing), COARSE)
        for thing in (FINER[:3], (*FINER, ()), list(FINER), ('Finer', *FINER[1:]), ('finest', *FINER[1:]), ('tells', *FINER[1:]),
                      (None, *FINER[1:]), ('', *FINER[1:])):
            self.wrong('shape', -1, thing, COARSE)


class FinestTest(CheckerCase):
    def test_accepted(self):
        self.same(lets_finest(HALL, SUM, SUMS, FINEST), 'finest')
        self.same(lets_finest(thing=THREE, grouping=((0, 1, 2),), ask=ANN, hall=TRIPLE), 'finest')
        for k, group in enumerate(((0,), (1, 2))):
            paper = ('finest', (mum_paper(HALL(ANN, (0,))), mum_paper(HALL(ANN, (1, 2)))),
                     ((), ((1, ('tells', (), 0, W[6 + k])),)))
            self.same(lets_finest(HALL, ANN, ((0,), (1, 2)), paper), 'finest')

    def test_many(self):
        _, papers, rows = FINEST
        for k in range(4):
            self.wrong('many', -1, ('finest', papers[:k], rows))
            self.wrong('many', -1, ('finest', papers, rows[:k]))
            self.wrong('many', -1, ('finest', papers[:k], rows[:k]))
        self.wrong('many', -1, ('finest', (*papers, papers[0]), rows))
        self.wrong('many', -1, ('finest', papers, (*rows, ())))
        self.wrong('many', -1, ('finest', (*papers, papers[0]), (*rows, ())))
        self.wrong('many', -1, ('finest', (), ()))

    def test_group(self):
        _, papers, rows = FINEST
        for n in range(4):
            for paper in (*ANY, 0, papers[n - 1], TOLD_FOUR, ('tells', (), 0, W[0]), list(papers[n]), ('mum',), ('mum', ()),
                          ('mum', papers[n][1][:-1]), ('mum', papers[n][1][::-1]), mum_paper(HALL(ANN, (1,))), FINEST):
                self.wrong('group', n, ('finest', with_item(papers, n, paper), rows))
        self.wrong('group', 0, ('finest', papers[::-1], rows))
        # A paper "tells" that is right is no paper "mum".
        self.wrong('group', 4, ('finest', (*papers[:3], mum_paper(HALL(SUM, (3,))), TOLD_FOUR), ((),) * 5), FIVE)
        self.wrong('group', 2, ('finest', (*[mum_paper(HALL(ANN, (k,))) for k in range(2)], ('tells', (), 0, W[8])), ((),) * 3),
                   ALONE, ANN)

    def test_divisions(self):
        _, papers, rows = FINEST
        for n in range(3):
            self.wrong('divisions', n, ('finest', papers, with_item(rows, n, rows[3])))
        self.wrong('divisions', 3, ('finest', papers, ((), (), (), ())))
        self.wrong('divisions', 3, ('finest', papers, ((), (), (), rows[3] * 2)))
        self.wrong('divisions', 0, ('finest', papers, rows[::-1]))
        row = THREE[2][0]
        for some in ((), row[:1], row[:2], (*row, row[2])):
            self.wrong('divisions', 0, ('finest', THREE[1], (some,)), ((0, 1, 2),), ANN, TRIPLE)

    def test_division(self):
        _, papers, rows = FINEST
        for pair in ((0, TOLD_FOUR), (True, TOLD_FOUR), (None, TOLD_FOUR), (2, TOLD_FOUR), (-1, TOLD_FOUR), ('1', TOLD_FOUR),
                     ((1,), TOLD_FOUR),
                     (SIXTY, TOLD_FOUR), (1, None), (1, 0), (1, list(TOLD_FOUR)), (1, ('tells', (), 0, W[7])),
                     (1, ('tells', ('x',), 1, W[8])),
                     (1, papers[3]), (1, mum_paper(HALL(SUM, (3,)))), (0, mum_paper(HALL(SUM, (3,)))), (1, ()), (TOLD_FOUR, 1)):
            self.wrong('division', (3, 0), ('finest', papers, ((), (), (), (pair,))))
        self.same(lets_finest(HALL, SUM, SUMS, ('finest', papers, ((), (), (), ((1, ('tells', ('y',), 0, W[8])),)))), 'finest')

    def test_division_by_division(self):
        row = THREE[2][0]
        due = [(0,), (0, 1), (0, 2)]
        self.same([one for one, _ in divisions((0, 1, 2))], due)
        for d in range(3):
            for pair in ((1 - row[d][0], row[d][1]), (bool(row[d][0]), row[d][1]), row[d - 1], (row[d][0], None),
                         (row[d][0], THREE[1][0])):
                self.wrong('division', (0, d), ('finest', THREE[1], (with_item(row, d, pair),)), ((0, 1, 2),), ANN, TRIPLE)
        self.wrong('division', (0, 0), ('finest', THREE[1], (row[::-1],)), ((0, 1, 2),), ANN, TRIPLE)

    def test_group_by_group(self):
        _, papers, rows = FINEST
        bad = [('finest', with_item(papers, 1, None), ((), rows[3], (), rows[3])),
               ('finest', papers, ((), rows[3], (), ((0, 0),))),
               ('finest', with_item(papers, 3, None), ((), (), rows[3], ())),
               ('finest', with_item(papers, 3, None), ((), (), (), ()))]
        self.wrong('group', 1, bad[0])
        self.wrong('divisions', 1, bad[1])
        self.wrong('divisions', 2, bad[2])
        self.wrong('group', 3, bad[3])
        self.wrong('many', -1, ('finest', (*[None] * 3,), rows))
        # The division of the first group comes before the paper of the second one.
        hall = HALL.with_secret(('=', ANN, 0))
        ask = ('+', ANN, ('if', ('=', BOB, 2), 3, 0))
        grouping = ((0, 2), (1,), (3, 5), (4,))
        right = finest_paper(hall, ask, grouping)
        self.same(right[0], 'finest')
        self.wrong('division', (0, 0), ('finest', with_item(right[1], 2, None), with_item(right[2], 0, ((0, None),))), grouping,
                   ask, hall)
        self.wrong('group', 2, ('finest', with_item(right[1], 2, None), with_item(right[2], 2, ((0, None),))), grouping, ask,
                   hall)
        self.wrong('division', (2, 0), ('finest', right[1], with_item(right[2], 2, ((0, None),))), grouping, ask, hall)


class FinerTest(CheckerCase):
    def test_accepted(self):
        self.same(lets_finest(HALL, SUM, COARSE, FINER), 'finer')
        # A grouping that is not mum may have one, too: what is divided here is another group.
        paper = ('finer', 0, ((0,), (1,)), (mum_paper(HALL(SUM, (0,))), mum_paper(HALL(SUM, (1,)))))
        self.same(lets_finest(HALL, SUM, ((0, 1), (2,), (3,), (4,)), paper), 'finer')

    def test_number(self):
        for n in (*ANY, -1, -2, 2, 5, SIXTY, '1', (1,), 1 == 1, [1]):
            self.wrong('number', -1, with_item(FINER, 1, n), COARSE)

    def test_division(self):
        for division in (*ANY, *WRONG_DIVISIONS):
            self.wrong('division', -1, with_item(FINER, 2, division), COARSE)
        self.wrong('division', -1, with_item(FINER, 1, 0), COARSE)
        self.wrong('division', -1, ('finer', 0, ((0,), ()), FINER[3]), COARSE)

    def test_half(self):
        one, other = FINER[3]
        for paper in (*ANY, 0, TOLD_FOUR, ('tells', (), 0, W[8]), list(one), ('mum', ()), mum_paper(HALL)):
            self.wrong('half', 0, with_item(FINER, 3, (paper, other)), COARSE)
            self.wrong('half', 1, with_item(FINER, 3, (one, paper)), COARSE)
            self.wrong('half', 0, with_item(FINER, 3, (paper, paper)), COARSE)
        self.wrong('half', 0, with_item(FINER, 3, (other, one)), COARSE)
        self.wrong('half', 1, with_item(FINER, 2, ((1, 4), (2, 3))), COARSE)
        # A right paper that the hall behind a half tells is no paper "mum".
        self.wrong('half', 1, ('finer', 1, ((1, 2, 3), (4,)), (mum_paper(HALL(SUM, (1, 2, 3))), TOLD_FOUR)), COARSE)

    def test_several_at_once(self):
        self.wrong('shape', -1, ('finer', 9, None, None), COARSE)
        self.wrong('number', -1, ('finer', 9, None, (None, None)), COARSE)
        self.wrong('division', -1, ('finer', 1, None, (None, None)), COARSE)
        self.wrong('half', 0, ('finer', 1, FINER[2], (None, None)), COARSE)


class TellsTest(CheckerCase):
    def test_accepted(self):
        for few in ((), ('x',), ('y',)):
            self.same(lets_finest(HALL, SUM, FIVE, ('tells', 4, ('tells', few, 0, W[8]))), 'tells')
        for world in W[6:]:
            self.same(lets_finest(HALL, ANN, ALONE, ('tells', 2, ('tells', (), 0, world))), 'tells')

    def test_number(self):
        for n in (*ANY, -1, -5, 5, SIXTY, '4', (4,), [4]):
            self.wrong('number', -1, ('tells', n, TOLD_FOUR), FIVE)
        for n in (2, 3):
            self.wrong('number', -1, ('tells', n, ('tells', (), 0, W[0])), ((0,), (1, 2)), ANN)

    def test_group(self):
        for n in range(4):
            self.wrong('group', -1, ('tells', n, TOLD_FOUR), FIVE)
            self.wrong('group', -1, ('tells', n, mum_paper(HALL(SUM, (n,)))), FIVE)
        for paper in (*ANY, 0, list(TOLD_FOUR), TOLD_FOUR[:3], ('tells', (), 0, W[7]), ('tells', (), 1, W[8]),
                      ('tells', ('z',), 0, W[8]),
                      ('mum', ()), mum_paper(HALL), ('tells', 4, TOLD_FOUR)):
            self.wrong('group', -1, ('tells', 4, paper), FIVE)

    def test_several_at_once(self):
        self.wrong('number', -1, ('tells', 5, None), FIVE)
        self.wrong('group', -1, ('tells', 4, None), FIVE)


class ConsequencesTest(Case):
    def test_of_finest_groupings(self):
        maker = reference.HallMaker(142)
        for _ in range(40):
            hall, ask = maker.hall(2), maker.ask()
            plain = reference.plain(hall)
            values = reference.values(plain, ask)
            if len(values) > 4:
                continue
            finest = finest_groupings(hall, ask)
            for grouping in reference.mum_groupings(plain, ask):
                self.assertTrue(any(reference.refines(some, grouping) for some in finest))
            whole = tuple((value,) for value in values)
            self.same(finest == (whole,), reference.mum_aloud(plain, ask, whole))
            if hall.permits:
                fewer = Hall(hall.scene, hall.worlds, hall.permits[1:])
                for grouping in finest:
                    self.same(reference.mum_aloud(reference.plain(fewer), ask, grouping), True)

    def test_a_permit_more(self):
        told = HALL.with_permit('x', SUM, SUMS)
        self.same([finest_groupings(HALL, BOB), finest_groupings(told, BOB)], [(ALONE,), (((0, 1, 2),),)])
        self.same(finest_groupings(HALL.with_secret(ALWAYS), BOB), ())
