"""Mum halls: points 6, 8 and 37."""

from mumhouse.halls import Hall
from mumhouse.mumness import is_mum, tellings
from tests import reference
from tests.samples import ALWAYS, ANN, BOB, NEVER, PAY, SCENE, SUM, SUMS, TOP, W, Case

HALL = Hall(SCENE)
ALONE = ((0,), (1,), (2,))
TOLD = HALL.with_permit('x', SUM, SUMS)
BOTH = TOLD.with_permit('y', BOB, ALONE)


class MumTest(Case):
    def both(self, hall, due):
        self.same([is_mum(hall), tellings(hall)], [not due, due])

    def test_example(self):
        self.same([is_mum(BOTH), tellings(BOTH.with_few(2))],
                  [True, ((('x', 'y'), 0, ((2,), (0,))), (('x', 'y'), 0, ((2,), (1,))))])

    def test_to_everybody(self):
        self.both(HALL(SUM, (4,)), (((), 0, W[8]), (('x',), 0, W[8]), (('y',), 0, W[8])))
        self.both(HALL(SUM, (4,)).with_few(0), (((), 0, W[8]),))
        self.both(HALL(ANN, (2,)).with_few(0), (((), 0, W[6]),))
        self.both(HALL(SUM, (3, 4)), ())

    def test_to_one_asker(self):
        told = HALL.with_permit('x', ANN, ALONE)
        self.both(told, ((('x',), 0, W[6]),))
        self.both(told.with_few(0), ())
        self.both(told.with_few(2), ((('x',), 0, W[6]), (('x', 'y'), 0, W[6])))
        self.both(HALL.with_permit('y', SUM, ((0, 1, 2, 3), (4,))), ((('y',), 0, W[8]),))

    def test_to_two_together_only(self):
        self.both(BOTH, ())
        self.both(BOTH.with_few(2), ((('x', 'y'), 0, W[6]), (('x', 'y'), 0, W[7])))
        self.both(BOTH.with_few(9), ((('x', 'y'), 0, W[6]), (('x', 'y'), 0, W[7])))

    def test_two_permits_of_one_asker(self):
        self.both(TOLD.with_permit('x', BOB, ALONE), ((('x',), 0, W[6]), (('x',), 0, W[7])))

    def test_knowers(self):
        known = Hall((PAY, ('x', 'y'), ((TOP[0], ('x',)),), 2), W, (('x', ANN, ALONE),))
        self.both(known, ())
        # The few of both is not looked at, as x knows; alone y may learn nothing.
        self.both(known.with_permit('y', SUM, SUMS), ())
        self.both(known.with_permit('y', SUM, ((0,), (1,), (2,), (3,), (4,))), ((('y',), 0, W[8]),))
        # To the empty few no secret may be told, also if it has knowers.
        self.both(known(SUM, (4,)), (((), 0, W[8]), (('y',), 0, W[8])))
        all_know = Hall((PAY, ('x', 'y'), ((TOP[0], ('x', 'y')),), 2), W[6:])
        self.both(all_know, (((), 0, W[6]),))

    def test_several_secrets(self):
        hall = HALL.with_secret(('=', BOB, 0)).with_secret(('=', ANN, 2), 'y').with_permit('x', BOB, ALONE)
        self.both(hall, ((('x',), 1, W[0]),))
        self.both(hall(ANN, (2,)), (((), 0, W[6]), ((), 2, W[6]), (('x',), 0, W[6]), (('x',), 0, W[7]), (('x',), 0, W[8]),
                                    (('x',), 1, W[6]), (('x',), 2, W[6]), (('x',), 2, W[7]), (('x',), 2, W[8]), (('y',), 0, W[6])))

    def test_from_the_beginning(self):
        self.both(HALL.with_secret(ALWAYS), (((), 1, W[0]), (('x',), 1, W[0]), (('y',), 1, W[0])))
        self.both(HALL.with_secret(NEVER), ())
        self.both(HALL.without_secret(0)(SUM, (4,)), ())
        self.both(Hall((PAY, (), (TOP,), 3)), ())
        self.both(Hall((PAY, (), (TOP,), 3), W[7:]), (((), 0, W[7]),))

    def test_one_view_is_enough(self):
        hall = HALL.with_permit('x', ('if', ('<', SUM, 4), 0, SUM), ((0,), (4,)))
        self.both(hall, ((('x',), 0, W[8]),))

    def test_as_the_document_says(self):
        maker = reference.HallMaker(71)
        mum = 0
        for _ in range(300):
            hall = maker.hall(4)
            due = reference.tellings(reference.plain(hall))
            self.both(hall, due)
            mum += not due
        self.assertTrue(30 < mum < 270, mum)

    def test_by_name(self):
        self.same([is_mum(hall=BOTH), tellings(hall=BOTH)], [True, ()])


class GuaranteesTest(Case):
    def test_more_never_makes_a_hall_mum(self):
        maker = reference.HallMaker(72)
        for _ in range(100):
            hall = maker.hall()
            if is_mum(hall):
                continue
            few = hall.scene[3]
            self.same([is_mum(hall.with_few(few + 1)), is_mum(hall.with_secret(TOP[0]))], [False, False])
            for asker in hall.scene[1]:
                grouping = maker.grouping(reference.values(reference.plain(hall), ANN))
                self.same(is_mum(hall.with_permit(asker, ANN, grouping)), False)

    def test_the_order_of_permits_changes_no_view(self):
        maker = reference.HallMaker(73)
        for _ in range(60):
            hall = maker.hall(4)
            other = Hall(hall.scene, hall.worlds, hall.permits[::-1])
            self.same(tellings(other), tellings(hall))
