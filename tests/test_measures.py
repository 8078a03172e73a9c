"""Measures of mum groupings, and what a rule chooses: point 43."""

from mumhouse.errors import InvalidHall, UnfitExpression
from mumhouse.finest import finest_groupings
from mumhouse.halls import Hall
from mumhouse.measures import chosen, fewest_refused, most_groups, most_whole
from mumhouse.ruling import alike_grouping
from mumhouse.values import value_of
from tests import reference
from tests.samples import ALWAYS, ANN, ANY, BOB, IS, PAY, SCENE, SIXTY, SUM, W, Case
from tests.test_knowing import UNFIT_ASKS

HALL = Hall(SCENE)
NOT_MUM = HALL(SUM, (4,))
ALONE = ((0,), (1,), (2,))
MEASURES = (most_groups, fewest_refused, most_whole)
WORDS = ('alike', 'finest', 'bold')


def refused(hall, ask, grouping):
    return -sum(len(group) for group in grouping if len(group) > 1)


def whole(hall, ask, grouping):
    return sum((value_of(hall[0][0], world, ask),) in grouping for world in hall[1])


def least_with_most(hall, ask, number):
    """The greatest number of a mum grouping, and the least finest grouping with it; all groupings are gone through."""
    mum = reference.mum_groupings(hall, ask)
    if not mum:
        return None
    most = max(number(hall, ask, some) for some in mum)
    return most, min(some for some in reference.finest_of(mum) if number(hall, ask, some) == most)


class MeasuresTest(Case):
    def measures(self, hall, ask, groups, values, worlds):
        self.same([most_groups(hall, ask), fewest_refused(hall, ask), most_whole(hall, ask)], [groups, values, worlds])

    def test_examples(self):
        self.same([most_groups(HALL, SUM), most_whole(HALL, SUM)],
                  [(4, ((0,), (1,), (2,), (3, 4))), (7, ((0, 4), (1,), (2,), (3,)))])
        self.same([fewest_refused(HALL, SUM)[0], chosen(HALL, SUM, 'alike')], [2, ((0, 1, 2, 3, 4),)])

    def test_the_least_of_several(self):
        self.same(finest_groupings(HALL, ANN), (((0,), (1, 2)), ((0, 2), (1,))))
        self.measures(HALL, ANN, (2, ((0,), (1, 2))), (2, ((0,), (1, 2))), (3, ((0,), (1, 2))))
        self.measures(HALL, SUM, (4, ((0,), (1,), (2,), (3, 4))), (2, ((0,), (1,), (2,), (3, 4))),
                      (7, ((0, 4), (1,), (2,), (3,))))

    def test_whole_answers(self):
        for hall, ask, due in ((HALL, BOB, ALONE), (HALL, 7, ((7,),)), (HALL.without_secret(0), ANN, ALONE)):
            self.measures(hall, ask, (len(due), due), (0, due), (9, due))

    def test_one_group(self):
        hall = HALL.with_secret(('not', ('=', ANN, 2)))
        ask = ('if', ('=', ANN, 2), 1, 0)
        self.measures(hall, ask, (1, ((0, 1),)), (2, ((0, 1),)), (0, ((0, 1),)))

    def test_different_groupings(self):
        # That the sum is not 2 must not be told; with a difference of -2, 0 or 2 it can be 2.
        hall = Hall((PAY, (), ((('not', ('=', SUM, 2)), ()),), 0))
        self.measures(hall, ('-', ANN, BOB), (3, ((-2,), (-1, 0), (1, 2))), (3, ((-2,), (-1, 0, 1), (2,))),
                      (4, ((-2,), (-1, 1, 2), (0,))))

    def test_not_mum(self):
        for hall in (NOT_MUM, HALL.with_secret(ALWAYS), HALL.with_permit('x', ANN, ALONE)):
            for ask in (SUM, BOB, ANN, 7):
                self.measures(hall, ask, None, None, None)

    def test_all_groupings_gone_through(self):
        maker = reference.HallMaker(131)
        several = 0
        for _ in range(150):
            hall, ask = maker.hall(2), maker.ask()
            plain = reference.plain(hall)
            if len(reference.values(plain, ask)) > 5:
                continue
            due = [least_with_most(plain, ask, number) for number in (lambda _, __, some: len(some), refused, whole)]
            self.measures(hall, ask, due[0], due[1] and (-due[1][0], due[1][1]), due[2])
            several += len({pair[1] for pair in due if pair}) > 1
        self.assertGreater(several, 3)

    def test_by_name(self):
        self.same([number(ask=IS, hall=HALL) for number in MEASURES], [(2, ((0,), (1,))), (0, ((0,), (1,))), (9, ((0,), (1,)))])
        self.same(chosen(word='bold', ask=IS, hall=HALL), ((0,), (1,)))

    def test_unfit(self):
        for hall in (HALL, NOT_MUM):
            for thing, path in UNFIT_ASKS:
                for number in MEASURES:
                    self.raises(UnfitExpression, [path], number, hall, thing)


class ChosenTest(Case):
    def test_each_word(self):
        self.same([chosen(HALL, SUM, word) for word in WORDS],
                  [((0, 1, 2, 3, 4),), ((0,), (1,), (2,), (3, 4)), ((0, 4), (1,), (2,), (3,))])
        self.same([chosen(HALL, BOB, word) for word in WORDS], [ALONE] * 3)
        self.same([chosen(HALL, ANN, word) for word in WORDS], [((0, 1, 2),), ((0,), (1, 2)), ((0,), (1, 2))])

    def test_not_mum(self):
        for hall in (NOT_MUM, HALL.with_secret(ALWAYS), Hall((PAY, ('x',), ((ALWAYS, ('x',)),), 1), W)):
            for ask in (SUM, BOB, 7):
                for word in WORDS:
                    self.same(chosen(hall, ask, word), None)

    def test_other_words(self):
        for word in (*ANY, 0, 1, 'plain', 'Finest', 'finest ', 'bol', 'bold\n', ('bold',), ['bold'], WORDS, HALL, SIXTY):
            for hall in (HALL, NOT_MUM):
                self.raises(InvalidHall, ['rule', word], chosen, hall, SUM, word)

    def test_unfit_first(self):
        for thing, path in UNFIT_ASKS:
            for hall in (HALL, NOT_MUM):
                for word in (*WORDS, 'plain', None):
                    self.raises(UnfitExpression, [path], chosen, hall, thing, word)

    def test_the_words_say_the_measures(self):
        maker = reference.HallMaker(132)
        for _ in range(60):
            hall, ask = maker.mum_hall(2), maker.ask()
            if len(reference.values(reference.plain(hall), ask)) < 6:
                self.same([chosen(hall, ask, word) for word in WORDS],
                          [alike_grouping(hall, ask), most_groups(hall, ask)[1], most_whole(hall, ask)[1]])
