"""Finest groupings: point 42."""

from mumhouse.errors import UnfitExpression
from mumhouse.finest import finest_groupings
from mumhouse.halls import Hall
from tests import reference
from tests.samples import ALWAYS, ANN, BOB, IS, SCENE, SUM, SUMS, Case
from tests.test_knowing import UNFIT_ASKS

HALL = Hall(SCENE)
NOT_MUM = HALL(SUM, (4,))
ALONE = ((0,), (1,), (2,))


class FinestTest(Case):
    def test_examples(self):
        self.same(finest_groupings(HALL, ('of', 'ann', 'pay')), (((0,), (1, 2)), ((0, 2), (1,))))
        self.same(finest_groupings(HALL, SUM), (((0,), (1,), (2,), (3, 4)), ((0,), (1,), (2, 4), (3,)), ((0,), (1, 4), (2,), (3,)),
                                                ((0, 4), (1,), (2,), (3,))))

    def test_whole_answers_are_the_only_one(self):
        self.same(finest_groupings(HALL, BOB), (ALONE,))
        self.same(finest_groupings(HALL, 7), (((7,),),))
        self.same(finest_groupings(HALL.without_secret(0), SUM), (((0,), (1,), (2,), (3,), (4,)),))

    def test_one_group_of_all(self):
        self.same(finest_groupings(HALL.with_permit('x', SUM, SUMS), BOB), (((0, 1, 2),),))
        hall = HALL.with_secret(('not', ('=', ANN, 2)))
        self.same(finest_groupings(hall, ('if', ('=', ANN, 2), 1, 0)), (((0, 1),),))

    def test_not_mum(self):
        for hall in (NOT_MUM, HALL.with_secret(ALWAYS), HALL.with_permit('x', ANN, ALONE)):
            for ask in (SUM, BOB, ANN, 7):
                self.same(finest_groupings(hall, ask), ())

    def test_as_the_document_says(self):
        maker = reference.HallMaker(111)
        sizes = set()
        for _ in range(150):
            hall, ask = maker.hall(2), maker.ask()
            plain = reference.plain(hall)
            values = reference.values(plain, ask)
            if len(values) > 5:
                continue
            sizes.add(len(values))
            mum = reference.mum_groupings(plain, ask)
            due = tuple(reference.finest_of(mum))
            self.same(finest_groupings(hall, ask), due)
            self.same(due == (), not reference.mum(plain))
        self.same(sizes, {1, 2, 3, 4, 5})

    def test_by_name(self):
        self.same(finest_groupings(ask=IS, hall=HALL), (((0,), (1,)),))

    def test_unfit(self):
        for hall in (HALL, NOT_MUM):
            for thing, path in UNFIT_ASKS:
                self.raises(UnfitExpression, [path], finest_groupings, hall, thing)
