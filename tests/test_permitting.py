"""Permits: points 53 and 54."""

from itertools import combinations

from mumhouse.errors import InvalidGrouping, UnfitExpression, UnknownAsker
from mumhouse.halls import Hall
from mumhouse.lists import best_list
from mumhouse.mumness import is_mum
from mumhouse.permitting import bearable, finest_permits, is_mum_alone, permit_costs
from tests import reference
from tests.samples import ALWAYS, ANN, BOB, IS, NEVER, NONE, PAY, SCENE, SUM, SUMS, TOP, W, WRONG_VALUES, Case
from tests.test_groupings import partitions
from tests.test_halls import NO_ASKERS
from tests.test_knowing import UNFIT_ASKS
from tests.test_views import WRONG_SHAPES

HALL = Hall(SCENE)
TOLD = HALL.with_permit('x', SUM, SUMS)
TWO = TOLD.with_few(2)
NOT_MUM = HALL(SUM, (4,))
ALONE = ((0,), (1,), (2,))
FIVE = ((0,), (1,), (2,), (3,), (4,))


def with_permits(hall, *permits):
    """A plain hall with permits more."""
    return hall[0], hall[1], (*hall[2], *permits)


def mum_alone(hall, asker, ask):
    return [some for some in partitions(reference.values(hall, ask)) if reference.mum(with_permits(hall, (asker, ask, some)))]


def whole(hall, asker, ask):
    return asker, ask, tuple((value,) for value in reference.values(hall, ask))


class AloneTest(Case):
    def test_examples(self):
        self.same([is_mum_alone(some, 'y', BOB, ((0,), (1,), (2,))) for some in (TOLD, TWO)], [True, False])
        self.same([finest_permits(TWO, 'y', BOB), finest_permits(HALL, 'x', ANN)],
                  [(((0, 1, 2),),), (((0,), (1, 2)), ((0, 2), (1,)))])

    def test_by_few(self):
        for few, due in ((0, (FIVE,)), (1, (SUMS,)), (2, (SUMS,))):
            hall = HALL.with_few(few)
            self.same(is_mum_alone(hall, 'x', SUM, FIVE), few == 0)
            self.assertIn(due[0], finest_permits(hall, 'x', SUM))
        self.same(finest_permits(TWO.with_few(0), 'y', ANN), (ALONE,))
        self.same(finest_permits(TWO.with_few(1), 'y', BOB), (ALONE,))
        self.same(finest_permits(TWO.with_few(1), 'x', BOB), (((0, 1, 2),),))

    def test_knowers(self):
        hall = Hall((PAY, ('x', 'y'), ((TOP[0], ('x',)),), 2))
        self.same([is_mum_alone(hall, 'x', ANN, ALONE), is_mum_alone(hall, 'y', ANN, ALONE)], [True, False])
        self.same([finest_permits(hall, 'x', ANN), finest_permits(hall, 'y', BOB)], [(ALONE,), (ALONE,)])
        told = hall.with_permit('x', ANN, ALONE)
        self.same(finest_permits(told, 'y', ANN), (((0,), (1, 2)), ((0, 2), (1,))))

    def test_not_mum(self):
        for hall in (NOT_MUM, HALL.with_secret(ALWAYS), HALL.with_permit('x', ANN, ALONE)):
            for ask in (SUM, BOB, ANN, 7):
                for asker in ('x', 'y'):
                    self.same(finest_permits(hall, asker, ask), ())
                    for grouping in partitions(reference.values(reference.plain(hall), ask))[:9]:
                        self.same(is_mum_alone(hall, asker, ask, grouping), False)

    def test_all_groupings_gone_through(self):
        maker = reference.HallMaker(151)
        seen = set()
        for k in range(160):
            hall, ask = maker.mum_hall(2) if k % 2 else maker.hall(2), maker.ask()
            askers, few = hall.scene[1], hall.scene[3]
            plain = reference.plain(hall)
            values = reference.values(plain, ask)
            if not askers or len(values) > 5:
                continue
            asker = maker.random.choice(askers)
            mum = mum_alone(plain, asker, ask)
            self.same(finest_permits(hall, asker, ask), tuple(reference.finest_of(mum)))
            for grouping in maker.random.choices(partitions(values), k=5):
                self.same(is_mum_alone(hall, asker, ask, grouping), grouping in mum)
                self.same(is_mum_alone(hall, asker, ask, grouping), is_mum(hall.with_permit(asker, ask, grouping)))
            seen.add((min(few, 2), bool(hall.permits), bool(mum)))
        self.assertTrue({(few, more, True) for few in range(3) for more in (False, True)} <= seen, seen)
        self.assertIn(False, {mum for _, _, mum in seen})

    def test_by_name(self):
        self.same(is_mum_alone(grouping=ALONE, ask=BOB, asker='y', hall=TOLD), True)
        self.same(finest_permits(ask=BOB, asker='y', hall=TOLD), (ALONE,))


class ErrorsTest(Case):
    def test_the_first_error(self):
        for hall in (HALL, NOT_MUM, TOLD):
            for asker in NO_ASKERS:
                for ask in (SUM, True):
                    self.raises(UnknownAsker, [asker], finest_permits, hall, asker, ask)
                    self.raises(UnknownAsker, [asker], is_mum_alone, hall, asker, ask, None)
                    self.raises(UnknownAsker, [asker], permit_costs, hall, asker, ask, None, (True,))
                self.raises(UnknownAsker, [asker], bearable, hall, asker, (SUM, True))
            for thing, path in UNFIT_ASKS:
                self.raises(UnfitExpression, [path], finest_permits, hall, 'x', thing)
                self.raises(UnfitExpression, [path], is_mum_alone, hall, 'y', thing, None)
                self.raises(UnfitExpression, [path], permit_costs, hall, 'y', thing, None, (('+', 1, ('+', 1, True)),))
            for grouping in WRONG_SHAPES:
                self.raises(InvalidGrouping, ['shape', -1], is_mum_alone, hall, 'x', ANN, grouping)
                self.raises(InvalidGrouping, ['shape', -1], permit_costs, hall, 'x', ANN, grouping, (True,))
            for grouping in WRONG_VALUES:
                self.raises(InvalidGrouping, ['values', -1], is_mum_alone, hall, 'x', ANN, grouping)
                self.raises(InvalidGrouping, ['values', -1], permit_costs, hall, 'x', ANN, grouping, (True,))

    def test_asks(self):
        for thing, path in UNFIT_ASKS:
            for asks in ((thing,), (ANN, thing, ('+', ('+', 1, True), 1)), (ANN, BOB, thing)):
                for hall in (HALL, NOT_MUM):
                    values = reference.values(reference.plain(hall), SUM)
                    self.raises(UnfitExpression, [path], permit_costs, hall, 'x', SUM, tuple((value,) for value in values), asks)
                    self.raises(UnfitExpression, [path], permit_costs, hall, 'x', SUM, (values,), asks)
                    self.raises(UnfitExpression, [path], bearable, hall, 'x', asks)


class CostsTest(Case):
    def test_example(self):
        self.same([permit_costs(HALL, 'x', BOB, ((0,), (1,), (2,)), (SUM,)),
                   permit_costs(HALL, 'x', ANN, ((0,), (1,), (2,)), (SUM,))],
                  [5, None])

    def test_not_mum_alone(self):
        for asks in ((), (SUM,), (ANN, BOB)):
            self.same(permit_costs(HALL, 'x', ANN, ALONE, asks), None)
            self.same(permit_costs(HALL, 'x', SUM, FIVE, asks), None)
            self.same(permit_costs(TWO, 'y', BOB, ALONE, asks), None)
            self.same(permit_costs(NOT_MUM, 'x', 7, ((7,),), asks), None)

    def test_without_asks(self):
        for hall, grouping in ((HALL, ALONE), (TOLD, ((0, 2), (1,))), (HALL, ((0, 1, 2),))):
            self.same(permit_costs(hall, 'y', BOB, grouping, ()), 0)

    def test_one_and_two_asks(self):
        self.same(permit_costs(HALL, 'x', SUM, SUMS, (BOB,)), 9)
        self.same(permit_costs(HALL, 'x', SUM, ((0, 1, 2, 3, 4),), (BOB,)), 0)
        self.same(permit_costs(asks=(BOB, ANN), grouping=ALONE, ask=BOB, asker='y', hall=HALL), 0)
        self.same(permit_costs(HALL.with_few(0), 'x', SUM, FIVE, (BOB, ANN)), 0)

    def test_as_the_document_says(self):
        maker = reference.HallMaker(152)
        costs = set()
        for _ in range(90):
            hall, ask = maker.hall(1), maker.ask()
            plain = reference.plain(hall)
            values = reference.values(plain, ask)
            asks = tuple(maker.ask() for _ in range(maker.random.choice((1, 1, 2))))
            if not hall.scene[1] or len(values) > 4 or any(len(reference.values(plain, each)) > 4 for each in asks):
                continue
            asker = maker.random.choice(hall.scene[1])
            mum = mum_alone(plain, asker, ask)
            for grouping in maker.random.choices(partitions(values), k=3):
                due = None
                if grouping in mum:
                    due = reference.best(plain, asks) - reference.best(with_permits(plain, (asker, ask, grouping)), asks)
                self.same(permit_costs(hall, asker, ask, grouping, asks), due)
                costs.add(due)
        self.assertTrue({None, 0} < costs and len(costs) > 4, costs)
        self.assertGreaterEqual(min(costs - {None}), 0)


class BearableTest(Case):
    def test_example(self):
        self.same([bearable(HALL, 'x', (ANN, BOB, SUM)), bearable(HALL, 'x', (BOB, IS))], [((1,),), ((0, 1),)])

    def test_no_asks(self):
        self.same([bearable(HALL, 'x', ()), bearable(NOT_MUM, 'x', ())], [((),), ()])

    def test_not_mum(self):
        for hall in (NOT_MUM, HALL.with_secret(ALWAYS), HALL.with_permit('y', ANN, ALONE)):
            for asks in ((), (BOB,), (7, IS), (SUM, ANN, BOB)):
                self.same(bearable(hall, 'x', asks), ())

    def test_several(self):
        self.same(bearable(HALL, 'x', (IS, NONE, BOB)), ((0, 2), (1, 2)))
        self.same(bearable(HALL, 'x', (IS, BOB, NONE)), ((0, 1), (1, 2)))
        self.same(bearable(HALL, 'x', (ANN, SUM)), ((),))
        self.same(bearable(HALL, 'x', (7, 7, BOB, BOB)), ((0, 1, 2, 3),))
        self.same(bearable(HALL.with_few(0), 'y', (ANN, SUM, BOB)), ((0, 1, 2),))
        self.same(bearable(HALL, 'x', (ANN, 7, SUM, IS, NONE)), ((1, 3), (1, 4)))
        self.same(bearable(asks=(BOB,), asker='y', hall=TWO), ((),))
        self.same(bearable(TOLD, 'x', (BOB, IS)), ((),))
        self.same(bearable(TOLD, 'y', (BOB, IS)), ((0, 1),))

    def test_as_the_document_says(self):
        maker = reference.HallMaker(153)
        sizes = set()
        for _ in range(150):
            hall = maker.hall(2)
            asks = tuple(maker.ask() for _ in range(maker.random.randrange(4)))
            plain = reference.plain(hall)
            if not hall.scene[1]:
                continue
            asker = maker.random.choice(hall.scene[1])
            mum = [picks for size in range(len(asks) + 1) for picks in combinations(range(len(asks)), size)
                   if reference.mum(with_permits(plain, *[whole(plain, asker, asks[k]) for k in picks]))]
            due = sorted(some for some in mum if not any(set(some) < set(other) for other in mum))
            self.same(bearable(hall, asker, asks), tuple(due))
            sizes.add(len(due))
        self.assertTrue({0, 1, 2} <= sizes, sizes)


class ConsequencesTest(Case):
    def test_coarser_costs_no_more(self):
        maker = reference.HallMaker(154)
        for _ in range(30):
            hall, ask, asks = maker.mum_hall(1), maker.ask(), (maker.ask(),)
            plain = reference.plain(hall)
            if not hall.scene[1] or len(reference.values(plain, ask)) > 3:
                continue
            asker = hall.scene[1][0]
            costs = {some: permit_costs(hall, asker, ask, some, asks) for some in mum_alone(plain, asker, ask)}
            for one, cost in costs.items():
                for other in costs:
                    if reference.refines(one, other):
                        self.assertLessEqual(costs[other], cost)

    def test_the_order_of_permits_changes_no_view(self):
        hall = Hall((PAY, ('x', 'y'), (TOP, (NEVER, ())), 2))
        permits = (('x', SUM, SUMS), ('y', BOB, ((0, 2), (1,))), ('x', IS, ((0,), (1,))))
        one, other = (Hall(hall.scene, W, some) for some in (permits, permits[::-1]))
        for few in one.fews():
            self.same([one.view(few, world) for world in W], [other.view(few, world) for world in W])
        self.same(best_list(one, (SUM,)), best_list(other, (SUM,)))
