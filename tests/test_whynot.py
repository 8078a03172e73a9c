"""Why not: points 59 and 60."""

from itertools import permutations

from mumhouse.errors import InvalidGrouping, InvalidPaper, UnfitExpression
from mumhouse.finest import finest_groupings
from mumhouse.halls import Hall
from mumhouse.mumness import is_mum
from mumhouse.values import values_of
from mumhouse.whychecker import lets_why
from mumhouse.whynot import needed_drops, why_paper
from tests import reference
from tests.samples import ALWAYS, ANN, ANY, BOB, IS, NONE, SCENE, SIXTY, SUM, SUMS, W, WRONG_VALUES, Case, with_item
from tests.test_groupings import partitions
from tests.test_knowing import UNFIT_ASKS
from tests.test_views import WRONG_SHAPES

HALL = Hall(SCENE)
NOT_MUM = HALL(SUM, (4,))
ALONE = ((0,), (1,), (2,))
# A why paper of SUMS: 3 leaves 4 alone, and 4 cannot stand alone.
ROWS = ((3, 1, (), 0, W[8]), (4, 0, (), 0, W[8]))


def drops(hall, asks):
    """All secrets that some whole answers to all asks tell; all values that they have together are gone through."""
    found = set()
    for values in {values_of(hall[0][0], world, *asks) for world in hall[1]}:
        there = hall
        for ask, value in zip(asks, values):
            there = reference.behind(there, ask, (value,))
        found |= {k for _, k, _ in reference.tellings(there)}
    return tuple(sorted(found))


class DropsTest(Case):
    def test_example(self):
        self.same([needed_drops(HALL, SUM), needed_drops(HALL, BOB), needed_drops(HALL, IS, NONE)], [(0,), (), (0,)])

    def test_no_asks(self):
        self.same([needed_drops(HALL), needed_drops(NOT_MUM)], [(), (0,)])
        hall = HALL.with_secret(ALWAYS, 'x').with_secret(('<', SUM, 4)).with_secret(ALWAYS)
        self.same([needed_drops(hall), needed_drops(hall, ANN, BOB)], [(1, 3), (0, 1, 2, 3)])

    def test_asks_together(self):
        self.same([needed_drops(HALL, IS), needed_drops(HALL, NONE), needed_drops(HALL, NONE, IS), needed_drops(HALL, IS, IS)],
                  [(), (), (0,), ()])
        self.same(needed_drops(HALL, 7, BOB, IS, 7, BOB), ())
        self.same(needed_drops(HALL, 7, BOB, IS, 7, NONE), (0,))

    def test_permits_and_knowers(self):
        told = HALL.with_permit('x', SUM, SUMS)
        self.same([needed_drops(told, BOB), needed_drops(told.with_few(0), BOB)], [(0,), ()])
        hall = Hall((SCENE[0], ('x',), ((('=', ANN, 2), ('x',)), (('=', BOB, 2), ('x',))), 1), None, (('x', SUM, SUMS),))
        self.same([needed_drops(hall, BOB), needed_drops(hall, ANN), needed_drops(hall, SUM)], [(1,), (0,), (0, 1)])

    def test_all_values_gone_through(self):
        maker = reference.HallMaker(201)
        sizes = set()
        for k in range(200):
            hall = maker.hall()
            asks = tuple(maker.ask() for _ in range(k % 4))
            due = drops(reference.plain(hall), asks)
            self.same(needed_drops(hall, *asks), due)
            sizes.add((len(asks), len(due)))
        self.assertTrue({(0, 0), (0, 1), (1, 0), (1, 2), (2, 0), (2, 3), (3, 1)} <= sizes, sizes)

    def test_exactly_without_these_secrets(self):
        maker = reference.HallMaker(202)
        for _ in range(60):
            hall = maker.hall(2)
            asks = (maker.ask(), maker.ask())
            needed = needed_drops(hall, *asks)
            self.assertTrue(set(needed_drops(hall, asks[0])) <= set(needed))
            secrets = hall.scene[2]
            for left in [tuple(k for k in range(len(secrets)) if pick >> k & 1) for pick in range(1 << len(secrets))]:
                scene = (*hall.scene[:2], tuple(secrets[k] for k in left), hall.scene[3])
                for order in permutations(asks):
                    mum = self.answered(Hall(scene, hall.worlds, hall.permits), order)
                    self.same(mum, not set(left) & set(needed))

    def answered(self, hall, asks):
        """Whether whole answers to all asks are mum aloud, one after the other."""
        if not asks:
            return is_mum(hall)
        return all(self.answered(hall(asks[0], (value,)), asks[1:]) for value in reference.values(reference.plain(hall), asks[0]))

    def test_unfit(self):
        for hall in (HALL, NOT_MUM):
            for thing, path in UNFIT_ASKS:
                for asks in ((thing,), (ANN, thing, ('+', ('+', 1, True), 1)), (7, ANN, BOB, SUM, thing)):
                    self.raises(UnfitExpression, [path], needed_drops, hall, *asks)


class PaperTest(Case):
    def test_what_is_returned_is_accepted(self):
        maker = reference.HallMaker(203)
        found = set()
        for _ in range(60):
            hall, ask = maker.hall(2), maker.ask()
            plain = reference.plain(hall)
            values = reference.values(plain, ask)
            if len(values) > 4:
                continue
            for grouping in partitions(values):
                paper = why_paper(hall, ask, grouping)
                rows = [(value, group) for group in grouping if len(group) > 1 for value in group]
                stuck = all(not reference.mum_aloud(plain, ask, ((value,), tuple(v for v in group if v != value)))
                            for value, group in rows)
                self.same(paper is not None, stuck)
                if stuck:
                    self.same(lets_why(hall, ask, grouping, paper), len(rows))
                found.add((stuck, reference.mum_aloud(plain, ask, grouping)))
            for grouping in finest_groupings(hall, ask):
                self.assertIsNotNone(why_paper(hall, ask, grouping))
        self.same(len(found), 4)

    def test_forms(self):
        self.same(why_paper(hall=HALL, ask=SUM, grouping=SUMS), ROWS)
        self.same([why_paper(HALL, BOB, ALONE), why_paper(HALL, ANN, ALONE)], [(), ()])
        self.same([why_paper(HALL, SUM, ((0, 1), (2,), (3, 4))), why_paper(HALL, ANN, ((0, 1), (2,)))], [None, None])
        self.same(why_paper(HALL.with_secret(('=', ANN, 0)), ANN, ((0, 2), (1,))), ((0, 0, (), 1, W[0]), (2, 0, (), 0, W[6])))

    def test_errors(self):
        for hall in (HALL, HALL.with_secret(ALWAYS)):
            for thing, path in UNFIT_ASKS:
                self.raises(UnfitExpression, [path], why_paper, hall, thing, None)
                self.raises(UnfitExpression, [path], lets_why, hall, thing, None, None)
            for grouping in WRONG_SHAPES:
                self.raises(InvalidGrouping, ['shape', -1], why_paper, hall, ANN, grouping)
                self.raises(InvalidGrouping, ['shape', -1], lets_why, hall, ANN, grouping, None)
            for grouping in WRONG_VALUES:
                self.raises(InvalidGrouping, ['values', -1], why_paper, hall, ANN, grouping)
                self.raises(InvalidGrouping, ['values', -1], lets_why, hall, ANN, grouping, None)


class CheckerTest(Case):
    def wrong(self, word, at, thing, grouping=SUMS, ask=SUM, hall=HALL):
        self.raises(InvalidPaper, [word, at], lets_why, hall, ask, grouping, thing)

    def test_examples(self):
        self.same(lets_why(HALL, SUM, SUMS, ((3, 1, (), 0, ((2,), (2,))), (4, 0, (), 0, ((2,), (2,))))), 2)
        self.wrong('tells', 0, ((0, 0, (), 0, ((0,), (0,))),), ((0, 1), (2,), (3, 4)))

    def test_accepted(self):
        self.same(lets_why(thing=(), grouping=ALONE, ask=BOB, hall=HALL), 0)
        self.same(lets_why(HALL, SUM, SUMS, ((3, 1, ('y',), 0, W[8]), (4, 0, ('x',), 0, W[8]))), 2)
        # Either side will do if both are told.
        hall = HALL.with_secret(('=', ANN, 0))
        for first in ((0, 0, (), 1, W[1]), (0, 1, (), 0, W[7])):
            for second in ((2, 0, ('x',), 0, W[6]), (2, 1, ('y',), 1, W[2])):
                self.same(lets_why(hall, ANN, ((0, 2), (1,)), (first, second)), 2)

    def test_shape(self):
        for thing in (*ANY, 0, SIXTY, list(ROWS), ROWS[0], 'abc', (*ROWS, None), (None, *ROWS), HALL, (HALL,)):
            if thing != ():
                self.wrong('shape', -1, thing)
        for row in (*ANY, 0, ROWS[0][:4], (*ROWS[0], 0), list(ROWS[0]), 'abcde'):
            for k in range(2):
                self.wrong('shape', -1, with_item(ROWS, k, row))
            self.wrong('shape', -1, (*ROWS, row))
            self.wrong('shape', -1, (row,), ALONE, BOB)

    def test_value(self):
        self.wrong('value', 0, ())
        self.wrong('value', 1, ROWS[:1])
        self.wrong('value', 0, ROWS[1:])
        self.wrong('value', 0, ROWS[::-1])
        self.wrong('value', 1, (ROWS[0], ROWS[0]))
        for n in range(2):
            for value in (*ANY, 0, 2, 5, -3, 7 - ROWS[n][0], SIXTY, '3', (3,), SUMS[3]):
                self.wrong('value', n, with_item(ROWS, n, (value, *ROWS[n][1:])))
        self.wrong('value', 0, ((True, 1, (), 0, W[6]), (2, 0, (), 0, W[6])), ((0,), (1, 2)), ANN)
        self.wrong('value', 0, ((False, 1, (), 0, W[6]), (2, 0, (), 0, W[6])), ((0, 2), (1,)), ANN)

    def test_side(self):
        for n in range(2):
            for side in (*ANY, -1, 2, SIXTY, '1', (1,)):
                self.wrong('side', n, with_item(ROWS, n, (ROWS[n][0], side, *ROWS[n][2:])))

    def test_tells(self):
        for n, (value, side, few, k, world) in enumerate(ROWS):
            for rest in ((1 - side, few, k, world), (side, ('z',), k, world), (side, ['x'], k, world),
                         (side, ('x', 'y'), k, world),
                         (side, few, 1, world), (side, few, False, world), (side, few, None, world), (side, few, -1, world),
                         (side, few, k, W[7]), (side, few, k, list(world)), (side, few, k, None), (side, None, None, None)):
                self.wrong('tells', n, with_item(ROWS, n, (value, *rest)))

    def test_many(self):
        for row in (ROWS[0], ROWS[1], (5, 0, (), 0, W[8]), (None,) * 5):
            self.wrong('many', -1, (*ROWS, row))
            self.wrong('many', -1, (row,), ALONE, BOB)

    def test_several_at_once(self):
        none = (None,) * 5
        self.wrong('shape', -1, (none, 0))
        self.wrong('value', 0, (none, none, none))
        self.wrong('side', 0, ((3, None, None, None, None), none))
        self.wrong('tells', 0, ((3, 1, None, None, None), none))
        self.wrong('value', 1, (ROWS[0], none, none))
        self.wrong('side', 1, (ROWS[0], (4, 2, None, None, None), none))
        self.wrong('tells', 1, (ROWS[0], (4, 0, None, None, None), none))
