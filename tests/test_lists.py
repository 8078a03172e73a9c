"""Lists of asks: points 47, 48 and 49."""

from mumhouse.errors import InvalidGrouping, UnfitExpression
from mumhouse.halls import Hall
from mumhouse.lists import best_list, best_tree, price
from tests import reference
from tests.samples import ANN, BOB, IS, NONE, SCENE, SUM, SUMS, Case
from tests.test_groupings import partitions
from tests.test_knowing import UNFIT_ASKS
from tests.test_views import WRONG_SHAPES

HALL = Hall(SCENE)
NOT_MUM = HALL(SUM, (4,))
ALONE = ((0,), (1,), (2,))


def counted(hall, asks, tree):
    """The number of whole answers of a tree, counted anew; fails if it is no tree."""
    if not asks:
        assert tree == () and isinstance(tree, tuple)
        return 0
    grouping, trees = tree
    assert isinstance(tree, tuple) and isinstance(trees, tuple)
    assert grouping in partitions(reference.values(hall, asks[0])) and len(trees) == len(grouping)
    number = 0
    for group, within in zip(grouping, trees):
        there = reference.behind(hall, asks[0], group)
        assert reference.mum(there)
        number += (len(there[1]) if len(group) == 1 else 0) + counted(there, asks[1:], within)
    return number


class BestTest(Case):
    def best(self, hall, asks, due):
        self.same(best_list(hall, asks), due)
        self.same(counted(reference.plain(hall), asks, best_tree(hall, asks)), due)

    def test_example(self):
        self.same([best_list(HALL, (SUM,)), best_list(HALL, (ANN, BOB)), best_list(HALL, (ANN, IS)),
                   best_list(NOT_MUM, (BOB,))], [7, 12, 12, None])

    def test_no_asks(self):
        self.same([best_list(HALL, ()), best_tree(HALL, ())], [0, ()])
        self.same([best_list(NOT_MUM, ()), best_tree(NOT_MUM, ())], [None, None])

    def test_one(self):
        self.best(HALL, (SUM,), 7)
        self.best(HALL, (ANN,), 3)
        self.best(HALL, (BOB,), 9)
        self.best(HALL, (7,), 9)
        self.best(HALL.without_secret(0), (SUM,), 9)

    def test_two(self):
        self.best(HALL, (ANN, BOB), 12)
        self.best(HALL, (ANN, IS), 12)
        self.best(HALL, (IS, ANN), 12)
        self.best(HALL, (BOB, BOB), 18)

    def test_not_mum(self):
        for asks in ((), (BOB,), (SUM, ANN)):
            self.same([best_list(NOT_MUM, asks), best_tree(NOT_MUM, asks)], [None, None])

    def test_permits_count(self):
        told = HALL.with_permit('x', SUM, SUMS)
        self.best(told, (BOB,), 0)
        self.best(told.with_few(0), (BOB,), 9)

    def test_as_the_document_says(self):
        maker = reference.HallMaker(81)
        for size, many in ((0, 5), (1, 60), (2, 60), (3, 20)):
            for _ in range(many):
                hall = maker.mum_hall()
                asks = tuple(maker.ask() for _ in range(size))
                if all(len(reference.values(reference.plain(hall), ask)) < 5 for ask in asks):
                    self.best(hall, asks, reference.best(reference.plain(hall), asks))

    def test_the_limits(self):
        hall, asks = reference.limit_hall()
        self.same(len(hall), 81)
        self.best(hall, asks[:3], 57)

    def test_by_name(self):
        self.same([best_list(hall=HALL, asks=(SUM,)), best_tree(asks=(), hall=HALL)], [7, ()])
        self.same(price(hall=HALL, asks=(ANN,), grouping=((0, 1, 2),)), 3)

    def test_unfit(self):
        for hall in (HALL, NOT_MUM):
            for thing, path in UNFIT_ASKS:
                for asks in ((thing,), (ANN, thing, ('+', ('+', 1, True), 1)), (ANN, BOB, thing)):
                    self.raises(UnfitExpression, [path], best_list, hall, asks)
                    self.raises(UnfitExpression, [path], best_tree, hall, asks)
                    self.raises(UnfitExpression, [path], price, hall, asks, None)


class PriceTest(Case):
    def test_example(self):
        self.same([price(HALL, (ANN, IS), some) for some in (((0, 2), (1,)), ((0,), (1, 2)), ((0, 1, 2),), ((0,), (1,), (2,)))],
                  [0, 6, 3, None])

    def test_not_mum(self):
        self.same([price(HALL, (ANN,), ((0, 1), (2,))), price(HALL, (SUM, BOB), ((0,), (1,), (2,), (3,), (4,)))], [None, None])
        self.same([price(NOT_MUM, (BOB,), ((2,),)), price(NOT_MUM, (7, BOB), ((7,),))], [None, None])

    def test_grouping(self):
        for hall in (HALL, HALL(SUM, (0, 2, 4)), HALL(ANN, (2,))(BOB, (0, 1, 2))):
            for grouping in WRONG_SHAPES:
                self.raises(InvalidGrouping, ['shape', -1], price, hall, (ANN, IS), grouping)
            for grouping in ((), ((0,), (1,)), ((0, 3),), (*ALONE, (3,)), ((-1, 0), (1,), (2,)), ((3,), (4,), (5,))):
                self.raises(InvalidGrouping, ['values', -1], price, hall, (ANN, IS), grouping)
        self.raises(InvalidGrouping, ['values', -1], price, HALL(ANN, (0, 1)), (ANN,), ALONE)
        self.raises(UnfitExpression, [()], price, HALL, (ANN, True), None)

    def test_as_the_document_says(self):
        maker = reference.HallMaker(82)
        for _ in range(60):
            hall = maker.hall()
            asks = tuple(maker.ask() for _ in range(maker.random.choice((1, 1, 2))))
            plain = reference.plain(hall)
            found = reference.values(plain, asks[0])
            if len(found) > 4:
                continue
            prices = []
            for grouping in partitions(found):
                due = None
                if reference.mum_aloud(plain, asks[0], grouping):
                    due = reference.best(plain, asks) - reference.whole_answers(plain, asks, grouping)
                    prices.append(due)
                self.same(price(hall, asks, grouping), due)
            self.same([min(prices)] if prices else [], [0] if reference.mum(plain) else [])


class ConsequencesTest(Case):
    def test_never_less(self):
        maker = reference.HallMaker(83)
        for _ in range(60):
            hall = maker.mum_hall()
            asks = (maker.ask(),)
            number = best_list(hall, asks)
            self.assertGreaterEqual(best_list(hall, (*asks, maker.random.choice((ANN, BOB, IS, NONE)))), number)
            for k in range(len(hall.scene[2])):
                self.assertGreaterEqual(best_list(hall.without_secret(k), asks), number)
            if hall.permits:
                self.assertGreaterEqual(best_list(Hall(hall.scene, hall.worlds, hall.permits[1:]), asks), number)
