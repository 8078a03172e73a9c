"""Whole answers that are sure: point 50."""

from mumhouse.errors import UnfitExpression
from mumhouse.halls import Hall
from mumhouse.lists import best_list
from mumhouse.sureness import sure_answers
from tests import reference
from tests.samples import ALWAYS, ANN, BOB, IS, NONE, PAY, SCENE, SUM, SUMS, Case
from tests.test_knowing import UNFIT_ASKS

HALL = Hall(SCENE)
NOT_MUM = HALL(SUM, (4,))
ALONE = ((0,), (1,), (2,))


class SureTest(Case):
    def test_example(self):
        self.same([sure_answers(HALL, (ANN,)), sure_answers(HALL, (BOB,)), sure_answers(HALL, (ANN, BOB)),
                   sure_answers(HALL, (ANN, IS))],
                  [0, 1, 1, 1])

    def test_no_asks(self):
        self.same([sure_answers(HALL, ()), sure_answers(NOT_MUM, ())], [0, None])

    def test_one(self):
        for ask, due in ((SUM, 0), (ANN, 0), (BOB, 1), (IS, 1), (NONE, 1), (7, 1)):
            self.same(sure_answers(HALL, (ask,)), due)
        self.same(sure_answers(HALL.without_secret(0), (SUM,)), 1)

    def test_an_ask_twice(self):
        self.same([sure_answers(HALL, (BOB, BOB)), sure_answers(HALL, (ANN, ANN)), sure_answers(HALL, (7, 7, 7))], [2, 0, 3])
        self.same([sure_answers(HALL, (BOB, BOB, BOB)), sure_answers(HALL, (IS, IS)), sure_answers(HALL, (IS, BOB, IS))],
                  [3, 2, 3])

    def test_not_mum(self):
        for hall in (NOT_MUM, HALL.with_secret(ALWAYS), HALL.with_permit('x', ANN, ALONE)):
            for asks in ((), (BOB,), (7, 7), (SUM, ANN, BOB)):
                self.same(sure_answers(hall, asks), None)

    def test_permits_count(self):
        told = HALL.with_permit('x', SUM, SUMS)
        self.same([sure_answers(told, (BOB,)), sure_answers(told, (IS, BOB)), sure_answers(told.with_few(0), (BOB,))], [0, 0, 1])

    def test_as_the_document_says(self):
        maker = reference.HallMaker(171)
        found = set()
        for k in range(160):
            hall = maker.hall() if k % 4 == 0 else maker.mum_hall()
            plain = reference.plain(hall)
            asks = maker.asks(hall, 3, 4 if k % 8 else 5)
            if len(asks) == 3 and len(hall) > 7:
                asks = asks[:2]
            due = reference.sure(plain, asks) if reference.mum(plain) else None
            self.same(sure_answers(hall, asks), due)
            found.add((len(asks), due))
        self.assertTrue({(1, 0), (1, 1), (2, 0), (2, 1), (2, 2), (3, 1), (3, 3), (2, None)} <= found, found)

    def test_the_limits(self):
        hall, asks = reference.limit_hall()
        self.same([sure_answers(hall, asks[:2]), sure_answers(hall, asks[3:]), sure_answers(hall, (*asks[:2], asks[3]))],
                  [0, 1, 1])

    def test_by_name(self):
        self.same(sure_answers(asks=(BOB,), hall=HALL), 1)

    def test_unfit(self):
        for hall in (HALL, NOT_MUM):
            for thing, path in UNFIT_ASKS:
                for asks in ((thing,), (ANN, thing, ('+', ('+', 1, True), 1)), (ANN, BOB, thing)):
                    self.raises(UnfitExpression, [path], sure_answers, hall, asks)


class ConsequencesTest(Case):
    def test_bounds(self):
        maker = reference.HallMaker(172)
        for _ in range(60):
            hall = maker.mum_hall()
            asks = maker.asks(hall, 2, 4)
            number = sure_answers(hall, asks)
            self.assertLessEqual(number, len(asks))
            self.assertGreaterEqual(best_list(hall, asks), number * len(hall))
            self.assertGreaterEqual(sure_answers(hall, (*asks, maker.random.choice((ANN, BOB, IS, NONE)))), number)
            for k in range(len(hall.scene[2])):
                self.assertGreaterEqual(sure_answers(hall.without_secret(k), asks), number)
            if hall.permits:
                self.assertGreaterEqual(sure_answers(Hall(hall.scene, hall.worlds, hall.permits[1:]), asks), number)

    def test_no_secrets(self):
        self.same(sure_answers(Hall((PAY, ('x',), (), 3)), (SUM, ANN, BOB)), 3)
