"""What is known by groups: points 30, 31, 32 and 34."""

from itertools import combinations

from mumhouse.errors import InvalidGrouping, UnfitExpression
from mumhouse.knowing import block, known, settled_by, values_in
from mumhouse.values import is_true, value_of
from mumhouse.views import implied_grouping, partition_by, worlds_knowing, worlds_like, worlds_of_group
from tests.reference import ASKS, STATEMENTS, HallMaker
from tests.samples import ANN, ANY, BOB, IS, PAY, SUM, SUMS, TOP, W, Case
from tests.test_groupings import partitions, refines
from tests.test_knowing import UNFIT_ASKS, UNFIT_STATEMENTS

ALONE = ((0,), (1,), (2,))
ASKED = ((SUM, SUMS), (BOB, ALONE))
WRONG_SHAPES = (True, False, None, 0, '', '01', [], [(0,)], (0,), (0, 1, 2), ((0, 1, 2), ()), ([0], (1,), (2,)), ((0, 0, 1, 2),),
                ((1, 0, 2),), ((0,), (2,), (1,)), ((0, 1), (1, 2)), ((0, 1), (0, 2)), ((False,), (1,), (2,)), ((0,), (True,), (2,)),
                ((0, True, 2),), ((0,), (1,), ('2',)), ((0,), (1,), (2,), None), ((0, (1,)), (2,)), ((),))


def alike(asked, one, other):
    """Whether two worlds are in the same groups for all pairs, as point 31 says it."""
    for ask, grouping in asked:
        pair = {value_of(PAY, one, ask), value_of(PAY, other, ask)}
        if not any(pair <= set(group) for group in grouping):
            return False
    return True


def classes(worlds, asked):
    return tuple(sorted({tuple(some for some in worlds if alike(asked, some, world)) for world in worlds}))


def implied(worlds, asked, ask):
    """The grouping with the most groups of those that fit each class."""
    fit = [grouping for grouping in partitions(values_in(PAY, worlds, ask))
           if all(refines((values_in(PAY, some, ask),), grouping) for some in classes(worlds, asked))]
    most = [grouping for grouping in fit if len(grouping) == max(len(other) for other in fit)]
    assert len(most) == 1
    return most[0]


def samples(seed, many):
    """Worlds and asked, with none to three pairs, whose groupings have values more at times."""
    maker = HallMaker(seed)
    while many:
        worlds = tuple(sorted(maker.random.sample(W, maker.random.randrange(1, 10))))
        asks = [maker.ask() for _ in range(maker.random.randrange(4))]
        yield maker, worlds, tuple((ask, maker.grouping(values_in(PAY, worlds, ask), True)) for ask in asks)
        many -= 1


class GroupTest(Case):
    def test_worlds_of_group(self):
        for ask in ASKS:
            for group in ((), (0,), (0, 1), (1, 3), (-1, 0, 2), (5, 6), (0, 1, 2, 3, 4, 5, 6, 7)):
                for worlds in (W, W[1:7:2], W[:1]):
                    self.same(worlds_of_group(PAY, worlds, ask, group),
                              tuple(sorted(world for value in group for world in block(PAY, worlds, ask, value))))
        self.same(worlds_of_group(house=PAY, worlds=W, ask=SUM, group=(3, 4)), (W[5], W[7], W[8]))
        self.same(worlds_of_group(PAY, W, SUM, ()), ())

    def test_unfit(self):
        for thing, path in UNFIT_ASKS:
            self.raises(UnfitExpression, [path], worlds_of_group, PAY, W, thing, (0,))


class ClassesTest(Case):
    def test_example(self):
        self.same([len(partition_by(PAY, W, ASKED)), worlds_like(PAY, W, ASKED, ((2,), (2,))),
                   worlds_knowing(PAY, W, ASKED, TOP[0])],
                  [8, (((1,), (2,)), ((2,), (2,))), (((2,), (0,)), ((2,), (1,)))])
        self.same([implied_grouping(PAY, W, ASKED, ANN), implied_grouping(PAY, W, ASKED[:1], ANN)],
                  [((0,), (1, 2)), ((0, 1, 2),)])

    def test_none(self):
        self.same([partition_by(PAY, W, ()), worlds_like(PAY, W, (), W[4]), worlds_knowing(PAY, W, (), TOP[0])], [(W,), W, ()])
        self.same(worlds_knowing(PAY, W[6:], (), TOP[0]), W[6:])
        self.same([implied_grouping(PAY, W, (), ANN), implied_grouping(PAY, W, (), 7), implied_grouping(PAY, W[:3], (), ANN)],
                  [((0, 1, 2),), ((7,),), ((0,),)])

    def test_one(self):
        self.same(partition_by(PAY, W, ((ANN, ALONE),)), (W[:3], W[3:6], W[6:]))
        self.same(partition_by(PAY, W, ((ANN, ((0, 2), (1,))),)), ((*W[:3], *W[6:]), W[3:6]))
        self.same(partition_by(PAY, W, ((ANN, ((0, 1, 2),)),)), (W,))

    def test_values_more(self):
        more = ((-9, 0, 50), (1, 2), (7,))
        self.same(partition_by(PAY, W, ((ANN, more),)), (W[:3], W[3:]))
        self.same(worlds_like(PAY, W, ((ANN, more),), W[5]), W[3:])
        self.same(implied_grouping(PAY, W, ((ANN, more),), ANN), ((0,), (1, 2)))
        self.same(worlds_knowing(PAY, W[:3], ((ANN, ((0,), (1,), (2,))),), ('=', ANN, 0)), W[:3])

    def test_as_the_document_says(self):
        for maker, worlds, asked in samples(41, 150):
            found = classes(worlds, asked)
            self.same(partition_by(PAY, worlds, asked), found)
            for world in worlds:
                self.same(worlds_like(PAY, worlds, asked, world), next(some for some in found if world in some))
            statement = maker.random.choice(STATEMENTS)
            knowing = tuple(sorted(world for some in found for world in some
                                   if all(is_true(PAY, other, statement) for other in some)))
            self.same(worlds_knowing(PAY, worlds, asked, statement), knowing)
            ask = maker.ask()
            if len(values_in(PAY, worlds, ask)) < 6:
                self.same(implied_grouping(PAY, worlds, asked, ask), implied(worlds, asked, ask))

    def test_by_name(self):
        self.same(partition_by(house=PAY, worlds=W, asked=()), (W,))
        self.same(worlds_like(house=PAY, worlds=W, asked=(), world=W[0]), W)
        self.same(worlds_knowing(house=PAY, worlds=W, asked=(), statement=TOP[0]), ())
        self.same(implied_grouping(ask=ANN, asked=(), worlds=W, house=PAY), ((0, 1, 2),))


class ErrorsTest(Case):
    def each(self, error, fields, asked, worlds=W):
        """All four functions raise this error, whatever their last argument is."""
        self.raises(error, fields, partition_by, PAY, worlds, asked)
        self.raises(error, fields, worlds_like, PAY, worlds, asked, worlds[0])
        self.raises(error, fields, worlds_knowing, PAY, worlds, asked, True)
        self.raises(error, fields, worlds_knowing, PAY, worlds, asked, TOP[0])
        self.raises(error, fields, implied_grouping, PAY, worlds, asked, True)
        self.raises(error, fields, implied_grouping, PAY, worlds, asked, SUM)

    def test_asks(self):
        for thing, path in UNFIT_ASKS:
            self.each(UnfitExpression, [path], ((thing, ALONE),))
            self.each(UnfitExpression, [path], ((thing, None), (('+', 1, True), None)))
            self.each(UnfitExpression, [path], (*ASKED, (thing, None), (('+', 1, True), None)))

    def test_shapes(self):
        for grouping in WRONG_SHAPES:
            self.each(InvalidGrouping, ['shape', -1], ((ANN, grouping),))
            self.each(InvalidGrouping, ['shape', -1], (*ASKED, (ANN, grouping), (True, None)))
        for grouping in ANY:
            if grouping not in ((), ((0,),)):
                self.each(InvalidGrouping, ['shape', -1], ((7, grouping),))

    def test_values(self):
        for grouping in ((), ((0,),), ((0,), (1,)), ((0, 1),), ((1, 2),), ((0,), (2,), (3,)), ((-1,), (3,))):
            self.each(InvalidGrouping, ['values', -1], ((ANN, grouping),))
            self.each(InvalidGrouping, ['values', -1], (*ASKED, (ANN, grouping), (True, None)))
        self.same(partition_by(PAY, W[:6], ((ANN, ((0,), (1,))),)), (W[:3], W[3:6]))
        self.each(InvalidGrouping, ['values', -1], ((ANN, ((0,), (2,))),), W[:6])
        self.each(InvalidGrouping, ['values', -1], ((7, ()),))

    def test_pair_by_pair(self):
        self.each(InvalidGrouping, ['shape', -1], ((ANN, None), (True, ALONE)))
        self.each(InvalidGrouping, ['values', -1], ((ANN, ((0,),)), (ANN, None), (True, ALONE)))
        self.each(UnfitExpression, [()], ((True, None), (ANN, ((0,),))))
        self.each(InvalidGrouping, ['shape', -1], ((ANN, [(0,)]), (ANN, ((0,),))))

    def test_then_the_last_argument(self):
        for thing, path in UNFIT_ASKS:
            self.raises(UnfitExpression, [path], implied_grouping, PAY, W, ASKED, thing)
            self.raises(UnfitExpression, [path], implied_grouping, PAY, W, (), thing)
        for thing, path in UNFIT_STATEMENTS:
            self.raises(UnfitExpression, [path], worlds_knowing, PAY, W, ASKED, thing)
            self.raises(UnfitExpression, [path], worlds_knowing, PAY, W, (), thing)


class ConsequencesTest(Case):
    def test_whole_groupings_settle_what_they_imply_wholly(self):
        for maker, worlds, asked in samples(42, 60):
            asks = tuple(ask for ask, _ in asked)
            whole = tuple((ask, tuple((value,) for value in values_in(PAY, worlds, ask))) for ask in asks)
            ask = maker.ask()
            found = implied_grouping(PAY, worlds, whole, ask)
            self.same(all(len(group) == 1 for group in found), settled_by(PAY, worlds, asks, ask))

    def test_a_pair_more(self):
        for maker, worlds, asked in samples(43, 60):
            ask, statement = maker.ask(), maker.random.choice(STATEMENTS)
            for fewer in [some for size in range(len(asked)) for some in combinations(asked, size)]:
                self.same(refines(partition_by(PAY, worlds, asked), partition_by(PAY, worlds, fewer)), True)
                self.same(set(worlds_knowing(PAY, worlds, fewer, statement)) <= set(worlds_knowing(PAY, worlds, asked, statement)),
                          True)
                self.same(refines(implied_grouping(PAY, worlds, asked, ask), implied_grouping(PAY, worlds, fewer, ask)), True)

    def test_knowing_is_known(self):
        for maker, worlds, asked in samples(44, 60):
            statement = maker.random.choice(STATEMENTS)
            knowing = worlds_knowing(PAY, worlds, asked, statement)
            for world in worlds:
                self.same(known(PAY, worlds_like(PAY, worlds, asked, world), statement) is True, world in knowing)
