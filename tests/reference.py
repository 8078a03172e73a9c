"""The definitions of points 5 to 7 and 47, word by word and slowly, over plain halls (scene, worlds, permits)."""

import random
from functools import lru_cache
from itertools import combinations

from mumhouse.halls import Hall
from mumhouse.values import is_true, value_of
from tests.samples import ALWAYS, ANN, BOB, IS, NONE, PAY, SUM, TOP, TRIO, W, worlds_of
from tests.test_groupings import partitions, refines

ASKS = (SUM, ANN, BOB, IS, NONE, ('-', ANN, BOB), ('most', ANN, BOB), ('*', ANN, BOB), 7,
        ('count', ('=', ('my', 'pay'), 0)), ('+', ANN, ('*', 2, BOB)))
STATEMENTS = (TOP[0], ('=', ANN, BOB), ('<', ANN, BOB), ('not', ('=', SUM, 2)), ('and', TOP[0], ('=', BOB, 0)),
              ('<', 3, SUM), ('or', ('=', ANN, 0), ('=', BOB, 0)), ('<', SUM, 0))


def plain(hall):
    return hall.scene, hall.worlds, hall.permits


@lru_cache(maxsize=None)
def values(hall, ask):
    return tuple(sorted({value_of(hall[0][0], world, ask) for world in hall[1]}))


@lru_cache(maxsize=None)
def behind(hall, ask, group):
    scene, worlds, permits = hall
    return scene, tuple(world for world in worlds if value_of(scene[0], world, ask) in group), permits


def fews(hall):
    (_, askers, _, most), _, _ = hall
    return [few for size in range(len(askers) + 1) if size <= most for few in combinations(askers, size)]


def view(hall, few, world):
    (house, _, _, _), worlds, permits = hall

    def together(one, other):
        for asker, ask, grouping in permits:
            if asker in few:
                pair = {value_of(house, one, ask), value_of(house, other, ask)}
                if not any(pair <= set(group) for group in grouping):
                    return False
        return True

    return tuple(some for some in worlds if together(some, world))


def views(hall, few):
    return sorted({view(hall, few, world) for world in hall[1]})


def due(hall):
    """All (few, k, view): a few without a knower of secret k, and one of its views."""
    secrets = hall[0][2]
    return [(few, k, some) for few in fews(hall) for k in range(len(secrets)) if not set(few) & set(secrets[k][1])
            for some in views(hall, few)]


@lru_cache(maxsize=None)
def tellings(hall):
    house, _, secrets, _ = hall[0]
    return tuple(sorted((few, k, some[0]) for few, k, some in due(hall)
                        if all(is_true(house, world, secrets[k][0]) for world in some)))


def mum(hall):
    return not tellings(hall)


def mum_aloud(hall, ask, grouping):
    return all(mum(behind(hall, ask, group)) for group in grouping)


def mum_groupings(hall, ask):
    return [grouping for grouping in partitions(values(hall, ask)) if mum_aloud(hall, ask, grouping)]


def finest_of(mum):
    """Those of some groupings than which none of them is finer."""
    return [some for some in mum if not any(other != some and refines(other, some) for other in mum)]


@lru_cache(maxsize=None)
def best(hall, asks):
    """The greatest number of whole answers in a mum hall."""
    if not asks:
        return 0
    return max(whole_answers(hall, asks, grouping) for grouping in mum_groupings(hall, asks[0]))


def whole_answers(hall, asks, grouping):
    """The greatest number of whole answers in a mum hall if the first ask is answered by this grouping."""
    number = 0
    for group in grouping:
        there = behind(hall, asks[0], group)
        number += len(there[1]) if len(group) == 1 else 0
        number += best(there, asks[1:])
    return number


@lru_cache(maxsize=None)
def sure(hall, asks):
    """The number of whole answers that is sure in a mum hall: the least of the greatest of the least of point 50."""
    return min((max(least_sure(hall, asks, j, grouping) for grouping in mum_groupings(hall, asks[j]))
                for j in range(len(asks))), default=0)


def least_sure(hall, asks, j, grouping):
    """The number that is sure in a mum hall if ask j is chosen and answered by this grouping."""
    others = asks[:j] + asks[j + 1:]
    return min((len(group) == 1) + sure(behind(hall, asks[j], group), others) for group in grouping)


def limit_hall():
    """A hall at the limits of point 9: 81 worlds, three askers and secrets, few 3; and asks with four values."""
    secrets = ((('=', ('of', 'ann', 'pay'), 2), ()), (('=', ('of', 'bob', 'age'), 1), ('x',)),
               (('<', ('of', 'cid', 'pay'), ('of', 'ann', 'age')), ()))
    permits = (('x', ('of', 'cid', 'age'), ((-1, 0), (1,))), ('y', ('of', 'bob', 'pay'), ((0,), (1, 2))))
    pays = ('sum', ('my', 'pay'), ALWAYS)
    sums = (pays, ('+', pays, ('of', 'ann', 'age')), ('of', 'ann', 'pay'), ('of', 'bob', 'pay'))
    asks = tuple(('most', 0, ('least', 3, ('-', some, 1))) for some in sums)
    return Hall((TRIO, ('x', 'y', 'z'), secrets, 3), worlds_of(TRIO)[::9], permits), asks


class HallMaker:
    """Makes halls of the house PAY, the same ones in each run."""

    def __init__(self, seed):
        self.random = random.Random(seed)

    def ask(self):
        return self.random.choice(ASKS)

    def grouping(self, found, more=False):
        """Any grouping of these values, perhaps with values more."""
        if more and self.random.random() < 0.3:
            found = tuple(sorted({*found, 50, -50}))
        return self.random.choice(partitions(found))

    def some(self, things, most):
        return tuple(sorted(self.random.sample(things, self.random.randrange(min(most, len(things)) + 1))))

    def scene(self):
        askers = ('x', 'y', 'z')[:self.random.randrange(4)]
        statements = self.random.choices(STATEMENTS, k=self.random.randrange(4))
        secrets = tuple((statement, self.some(askers, 1)) for statement in statements)
        return PAY, askers, secrets, self.random.randrange(4)

    def hall(self, permits=3):
        scene = self.scene()
        worlds = tuple(sorted(self.random.sample(W, self.random.randrange(3, 10))))
        given = []
        for _ in range(self.random.randrange(permits + 1) if scene[1] else 0):
            ask = self.ask()
            found = values((scene, worlds, ()), ask)
            if len(found) < 6:
                given.append((self.random.choice(scene[1]), ask, self.grouping(found, True)))
        return Hall(scene, worlds, tuple(given))

    def asks(self, hall, most, bound):
        """A tuple of at most so many asks with at most so many values in a hall."""
        found = [self.ask() for _ in range(self.random.randrange(most + 1))]
        return tuple(ask for ask in found if len(values(plain(hall), ask)) <= bound)

    def mum_hall(self, permits=3):
        while True:
            hall = self.hall(permits)
            if mum(plain(hall)):
                return hall
