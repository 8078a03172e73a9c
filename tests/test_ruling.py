"""Rules: points 7, 8, 40 and 41."""

from mumhouse.errors import InvalidGrouping, UnfitExpression
from mumhouse.halls import Hall
from mumhouse.mumness import is_mum
from mumhouse.ruling import alike_grouping, is_mum_aloud, plain_grouping, plain_leaks
from tests import reference
from tests.samples import ALWAYS, ANN, BOB, IS, NONE, SCENE, SUM, SUMS, Case
from tests.test_groupings import partitions, refines
from tests.test_knowing import UNFIT_ASKS
from tests.test_views import WRONG_SHAPES

HALL = Hall(SCENE)
NOT_MUM = HALL(SUM, (4,))
ALONE = ((0,), (1,), (2,))
FIVE = ((0,), (1,), (2,), (3,), (4,))


class RulesTest(Case):
    def rules(self, hall, ask, plain, alike, leaks):
        self.same([plain_grouping(hall, ask), alike_grouping(hall, ask), plain_leaks(hall, ask)], [plain, alike, leaks])

    def test_example(self):
        self.same([plain_grouping(HALL, SUM), plain_leaks(HALL, SUM), is_mum_aloud(HALL, SUM, SUMS)], [FIVE, True, True])
        self.same([alike_grouping(HALL, SUM), alike_grouping(HALL, ('of', 'bob', 'pay'))], [((0, 1, 2, 3, 4),), ALONE])

    def test_nothing_refused(self):
        self.rules(HALL, BOB, ALONE, ALONE, False)
        self.rules(HALL, 7, ((7,),), ((7,),), False)
        self.rules(HALL.without_secret(0), SUM, FIVE, FIVE, False)

    def test_one_refused(self):
        self.rules(HALL, SUM, FIVE, ((0, 1, 2, 3, 4),), True)
        self.rules(HALL, ANN, ALONE, ((0, 1, 2),), True)

    def test_two_refused(self):
        told = HALL.with_permit('x', SUM, SUMS)
        self.rules(told, BOB, ((0, 1), (2,)), ((0, 1, 2),), True)
        hall = HALL.with_secret(('=', ANN, 0))
        self.rules(hall, ANN, ((0, 2), (1,)), ((0, 1, 2),), False)
        self.rules(hall, SUM, ((0, 4), (1,), (2,), (3,)), ((0, 1, 2, 3, 4),), False)

    def test_all_refused(self):
        hall = HALL.with_secret(('=', ANN, 0)).with_secret(('=', ANN, 1))
        self.rules(hall, ANN, ((0, 1, 2),), ((0, 1, 2),), False)
        self.rules(hall, ('-', 0, ANN), ((-2, -1, 0),), ((-2, -1, 0),), False)

    def test_halls_that_are_not_mum(self):
        self.rules(NOT_MUM, SUM, ((4,),), ((4,),), True)
        self.rules(NOT_MUM, 7, ((7,),), ((7,),), True)
        self.rules(HALL.with_secret(ALWAYS), ANN, ((0, 1, 2),), ((0, 1, 2),), True)
        # x knows that ann has 2 in the worlds with the sum 4 only.
        hall = HALL.with_permit('x', SUM, FIVE)
        self.same([is_mum(hall), plain_grouping(hall, BOB), plain_leaks(hall, BOB)], [False, ((0, 1, 2),), True])
        self.rules(hall, IS, ((0,), (1,)), ((0, 1),), True)

    def test_by_name(self):
        self.same([is_mum_aloud(hall=HALL, ask=SUM, grouping=SUMS), plain_leaks(hall=HALL, ask=SUM)], [True, True])
        self.same([plain_grouping(ask=BOB, hall=HALL), alike_grouping(ask=BOB, hall=HALL)], [ALONE, ALONE])

    def test_as_the_document_says(self):
        maker = reference.HallMaker(101)
        for _ in range(250):
            hall, ask = maker.hall(2), maker.ask()
            plain = reference.plain(hall)
            values = reference.values(plain, ask)
            told = [value for value in values if not reference.mum(reference.behind(plain, ask, (value,)))]
            due = tuple(sorted([(value,) for value in values if value not in told] + [tuple(told)] * bool(told)))
            self.rules(hall, ask, due, tuple((value,) for value in values) if not told else (values,),
                       not reference.mum_aloud(plain, ask, due))
            if len(values) < 5:
                for grouping in partitions(values):
                    self.same(is_mum_aloud(hall, ask, grouping), reference.mum_aloud(plain, ask, grouping))


class ErrorsTest(Case):
    def test_asks(self):
        for hall in (HALL, NOT_MUM):
            for thing, path in UNFIT_ASKS:
                for function in (plain_grouping, alike_grouping, plain_leaks):
                    self.raises(UnfitExpression, [path], function, hall, thing)
                self.raises(UnfitExpression, [path], is_mum_aloud, hall, thing, None)
                self.raises(UnfitExpression, [path], is_mum_aloud, hall, thing, ((0,),))

    def test_groupings(self):
        for hall in (HALL, HALL.with_secret(ALWAYS)):
            for grouping in WRONG_SHAPES:
                self.raises(InvalidGrouping, ['shape', -1], is_mum_aloud, hall, ANN, grouping)
            for grouping in ((), ((0,), (1,)), ((0, 3),), (*ALONE, (3,)), ((-1, 0), (1,), (2,)), ((3,), (4,), (5,))):
                self.raises(InvalidGrouping, ['values', -1], is_mum_aloud, hall, ANN, grouping)
        self.raises(InvalidGrouping, ['values', -1], is_mum_aloud, HALL(ANN, (0, 2)), ANN, ALONE)
        self.raises(InvalidGrouping, ['values', -1], is_mum_aloud, HALL, NONE, ((0,),))


class ConsequencesTest(Case):
    def test_of_the_rules(self):
        maker = reference.HallMaker(102)
        for _ in range(80):
            hall, ask = maker.hall(2), maker.ask()
            values = reference.values(reference.plain(hall), ask)
            found = plain_grouping(hall, ask)
            refused = [value for value in values if not is_mum(hall(ask, (value,)))]
            self.same(plain_leaks(hall, ask), bool(refused) and not is_mum(hall(ask, tuple(refused))))
            if len(refused) == 1:
                self.same([found, plain_leaks(hall, ask)], [tuple((value,) for value in values), True])
            self.same(is_mum_aloud(hall, ask, alike_grouping(hall, ask)), is_mum(hall))
            self.same(is_mum_aloud(hall, ask, (values,)), is_mum(hall))

    def test_coarser_is_mum_too(self):
        maker = reference.HallMaker(103)
        for _ in range(30):
            hall, ask = maker.mum_hall(2), maker.ask()
            values = reference.values(reference.plain(hall), ask)
            if len(values) > 4:
                continue
            mum = [some for some in partitions(values) if is_mum_aloud(hall, ask, some)]
            for some in partitions(values):
                self.same(any(refines(one, some) for one in mum), some in mum)
            for some in mum:
                for k in range(len(hall.scene[2])):
                    self.same(is_mum_aloud(hall.without_secret(k), ask, some), True)
                self.same(is_mum_aloud(hall.with_few(0), ask, some), True)
                self.same(is_mum_aloud(Hall(hall.scene, hall.worlds, hall.permits[1:]), ask, some), True)
