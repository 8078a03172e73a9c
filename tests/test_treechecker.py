"""Trees for lists of asks, and their checker: points 48 and 49."""

from mumhouse.errors import InvalidPaper, UnfitExpression
from mumhouse.halls import Hall
from mumhouse.lists import best_list, best_tree
from mumhouse.treechecker import lets_tree
from tests import reference
from tests.samples import ALWAYS, ANN, ANY, BOB, IS, SCENE, SIXTY, SUM, Case, with_item
from tests.test_groupings import partitions
from tests.test_knowing import UNFIT_ASKS
from tests.test_lists import counted
from tests.test_views import WRONG_SHAPES

HALL = Hall(SCENE)
NOT_MUM = HALL(SUM, (4,))
ALONE = ((0,), (1,), (2,))
ENDS = ((), (), ())
# A tree for ANN and IS: behind 0 and 2 the ask IS has the value 0 alone, behind 1 the value 1.
TREE = (((0, 2), (1,)), ((((0,),), ((),)), (((1,),), ((),))))
# Things that are no pair of any value and a tuple.
NO_PAIRS = (*ANY, 0, 'ab', (ALONE,), (ALONE, ENDS, ()), [ALONE, ENDS], (ALONE, list(ENDS)), (ALONE, None), (ALONE, 'abc'),
            (ENDS, 0))


class TreeTest(Case):
    def test_examples(self):
        self.same(lets_tree(HALL, (ANN,), (((0, 2), (1,)), ((), ()))), 3)
        self.raises(InvalidPaper, ['tells', (1,)], lets_tree, HALL, (ANN,), (((0, 1), (2,)), ((), ())))

    def test_the_best_tree(self):
        maker = reference.HallMaker(181)
        for _ in range(120):
            hall = maker.mum_hall()
            asks = maker.asks(hall, 3, 4)
            self.same(lets_tree(hall, asks, best_tree(hall, asks)), best_list(hall, asks))

    def test_all_trees_are_accepted(self):
        maker = reference.HallMaker(182)

        def any_tree(hall, asks):
            if not asks:
                return ()
            grouping = maker.random.choice(reference.mum_groupings(hall, asks[0]))
            return grouping, tuple(any_tree(reference.behind(hall, asks[0], group), asks[1:]) for group in grouping)

        for _ in range(150):
            hall = maker.mum_hall()
            asks = maker.asks(hall, 3, 4)
            tree = any_tree(reference.plain(hall), asks)
            number = lets_tree(hall, asks, tree)
            self.same(number, counted(reference.plain(hall), asks, tree))
            self.assertLessEqual(number, best_list(hall, asks))

    def test_accepted(self):
        self.same(lets_tree(HALL, (ANN, IS), TREE), 12)
        self.same(lets_tree(thing=(), asks=(), hall=HALL), 0)
        self.same(lets_tree(HALL, (BOB,), (ALONE, ENDS)), 9)
        self.same(lets_tree(HALL, (BOB,), (((0, 1, 2),), ((),))), 0)
        # What is left of an ask behind another one has to be grouped there, and that alone.
        self.same(lets_tree(HALL, (BOB, BOB), (ALONE, ((((0,),), ((),)), (((1,),), ((),)), (((2,),), ((),))))), 18)

    def test_unfit(self):
        for hall in (HALL, NOT_MUM):
            for thing, path in UNFIT_ASKS:
                for asks in ((thing,), (ANN, thing, ('+', ('+', 1, True), 1)), (ANN, BOB, thing)):
                    self.raises(UnfitExpression, [path], lets_tree, hall, asks, None)


class WrongTest(Case):
    def wrong(self, word, at, thing, asks=(ANN,), hall=HALL):
        self.raises(InvalidPaper, [word, at], lets_tree, hall, asks, thing)

    def within(self, word, at, thing, n=0):
        """The thing is wrong as a tree for IS, where it stands behind group n of the first ask."""
        self.wrong(word, at, (TREE[0], with_item(TREE[1], n, thing)), (ANN, IS))

    def test_hall(self):
        for hall in (NOT_MUM, HALL.with_secret(ALWAYS), HALL.with_permit('x', ANN, ALONE)):
            for asks in ((), (BOB,), (SUM, ANN)):
                for thing in ((), None, (ALONE, ENDS), TREE):
                    self.wrong('hall', -1, thing, asks, hall)

    def test_shape(self):
        for thing in NO_PAIRS:
            self.wrong('shape', (), thing)
            self.within('shape', (0,), thing)
            self.within('shape', (1,), thing, 1)
        for thing in (*ANY, 0, SIXTY, TREE, HALL, ((), ()), [()]):
            if thing != ():
                self.wrong('shape', (), thing, ())
                self.wrong('shape', (1,), (((0, 2), (1,)), ((), thing)))
                self.wrong('shape', (0,), (((0, 2), (1,)), (thing, thing)))
        self.wrong('shape', (1, 0), (TREE[0], with_item(TREE[1], 1, (((1,),), (None,)))), (ANN, IS))

    def test_grouping(self):
        for grouping in (*WRONG_SHAPES, (), ((0,), (1,)), ((0, 3),), (*ALONE, (3,)), ((-1, 0), (1,), (2,))):
            for trees in (ENDS, (), ((), ())):
                self.wrong('grouping', (), (grouping, trees))
        for grouping in (*ANY, 0, (), ((1,),), ((0, 1),), ((0,), (1,)), [(0,)], ((0,), (0,))):
            if grouping != ((0,),):
                self.within('grouping', (0,), (grouping, ((),)))
        for grouping in (((0,),), ((True,),), ((0,), (1,))):
            self.within('grouping', (1,), (grouping, ((),)), 1)

    def test_many(self):
        for trees in ((), ((),), ENDS, (None,) * 5):
            self.wrong('many', (), (((0, 2), (1,)), trees))
            if trees != ((),):
                self.within('many', (0,), (((0,),), trees))
                self.within('many', (1,), (((1,),), trees), 1)

    def test_tells(self):
        self.wrong('tells', (2,), (ALONE, ENDS))
        self.wrong('tells', (1,), (((0, 1), (2,)), (None, None)))
        self.wrong('tells', (4,), (((0,), (1,), (2,), (3,), (4,)), (None,) * 5), (SUM,))
        both = HALL.with_secret(('=', ANN, 0))
        self.wrong('tells', (0,), (ALONE, ENDS), (ANN,), both)
        # Behind the sum 2 or 4 bob must not be said to have 2 and to have not.
        told = (((0,), (1,), (2, 4), (3,)),
                ((((0,),), ((),)), (((0,), (1,)), ((), ())), (((0,), (1,), (2,)), ENDS), (((1,), (2,)), ((), ()))))
        self.wrong('tells', (2, 0), told, (SUM, BOB))
        right = with_item(told[1], 2, (((0, 1, 2),), ((),)))
        self.same(lets_tree(HALL, (SUM, BOB), (told[0], with_item(right, 3, (((1, 2),), ((),))))), 9 - 4 + 1 + 2)
        self.wrong('tells', (3, 0), (told[0], right), (SUM, BOB))

    def test_several_at_once(self):
        self.wrong('hall', -1, None, (BOB,), NOT_MUM)
        self.wrong('grouping', (), (None, (None,)))
        self.wrong('many', (), (((0, 1), (2,)), ()))
        self.wrong('tells', (2,), (ALONE, (None, None, None)))
        # A tree with all that is in it comes before the next one.
        bad = (None, ((), (), ()))
        self.wrong('shape', (0,), (TREE[0], (None, bad)), (ANN, IS))
        self.wrong('grouping', (0,), (TREE[0], (bad, None)), (ANN, IS))
        self.wrong('shape', (0, 0), (TREE[0], ((((0,),), (0,)), None)), (ANN, IS))
        self.wrong('many', (0,), (TREE[0], ((((0,),), ()), None)), (ANN, IS))
        self.wrong('shape', (1,), (TREE[0], (TREE[1][0], None)), (ANN, IS))
        self.wrong('tells', (1,), (((0, 1), (2,)), (None, bad)), (ANN, IS))
        self.wrong('many', (), (TREE[0], (None, bad, bad)), (ANN, IS))

    def test_only_trees_are_accepted(self):
        maker = reference.HallMaker(183)
        for _ in range(40):
            hall, ask = maker.mum_hall(2), maker.ask()
            plain = reference.plain(hall)
            if len(reference.values(plain, ask)) > 4:
                continue
            for grouping in partitions(reference.values(plain, ask)):
                mums = [reference.mum(reference.behind(plain, ask, group)) for group in grouping]
                tree = (grouping, ((),) * len(grouping))
                if all(mums):
                    self.same(lets_tree(hall, (ask,), tree), reference.whole_answers(plain, (ask,), grouping))
                else:
                    self.wrong('tells', (mums.index(False),), tree, (ask,), hall)
