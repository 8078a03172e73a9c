"""Arguments are not changed, and what is returned belongs to the caller: point 2."""

from copy import deepcopy

from mumhouse.errors import MumError
from mumhouse.finestchecker import lets_finest
from mumhouse.finestpapers import finest_paper
from mumhouse.halls import Hall
from mumhouse.measures import chosen, fewest_refused, most_groups, most_whole
from mumhouse.permitchecker import lets_permit
from mumhouse.permitpapers import permit_paper
from mumhouse.permitting import bearable, finest_permits, is_mum_alone, permit_costs
from mumhouse.sureness import sure_answers
from tests.samples import ANN, BOB, SCENE, SUM, SUMS, W, Case

TOLD = ('tells', (), 0, W[8])


def lists(thing):
    """The value with lists in place of the tuples in it, but for the outermost one."""
    return tuple(list(part) if isinstance(part, tuple) else part for part in thing)


def things(*papers):
    """Papers, and values like them that are wrong here and there."""
    return [some for paper in papers for some in (paper, lists(paper), list(paper), [*paper, [paper]], (*paper[:-1], [paper[-1]]))]


class UnchangedTest(Case):
    def unchanged(self, function, *given):
        hall, *others = given
        before = repr([hall.scene, hall.worlds, hall.permits, others])
        kept = deepcopy(others)
        found = []
        for _ in range(2):
            try:
                found.append(function(hall, *others))
            except MumError as error:
                found.append([error.__class__, repr(vars(error))])
        self.same(repr([hall.scene, hall.worlds, hall.permits, others]), before)
        self.same(others, kept)
        self.same(found[0], found[1])

    def test_measures_and_permits(self):
        for hall in (Hall(SCENE), Hall(SCENE).with_permit('x', SUM, SUMS), Hall(SCENE)(SUM, (4,))):
            for asks in ((), (BOB,), (BOB, list(ANN)), (list(BOB),)):
                self.unchanged(sure_answers, hall, asks)
                self.unchanged(bearable, hall, 'x', asks)
                self.unchanged(permit_costs, hall, 'x', SUM, ((0, 1, 2, 3, 4),), asks)
            for ask in (SUM, list(SUM)):
                for number in (most_groups, fewest_refused, most_whole):
                    self.unchanged(number, hall, ask)
                for word in ('alike', 'finest', 'bold', ['bold']):
                    self.unchanged(chosen, hall, ask, word)
                self.unchanged(finest_permits, hall, 'x', ask)
                self.unchanged(finest_permits, hall, ['x'], ask)
                for grouping in (SUMS, lists(SUMS), list(SUMS)):
                    self.unchanged(is_mum_alone, hall, 'x', ask, grouping)
                    self.unchanged(finest_paper, hall, ask, grouping)
                    self.unchanged(permit_paper, hall, 'x', ask, grouping)

    def test_checkers(self):
        hall = Hall(SCENE)
        coarse = ((0,), (1, 2, 3, 4))
        for grouping in (SUMS, coarse):
            for thing in things(finest_paper(hall, SUM, grouping), ('tells', 3, TOLD)):
                self.unchanged(lets_finest, hall, SUM, grouping, thing)
            for thing in things(permit_paper(hall, 'x', SUM, grouping), ('tells', TOLD)):
                self.unchanged(lets_permit, hall, 'x', SUM, grouping, thing)
