"""Sure trees, limit trees and their checkers: points 51 and 52."""

from mumhouse.errors import InvalidPaper, UnfitExpression
from mumhouse.halls import Hall
from mumhouse.surechecker import lets_limit, lets_sure
from mumhouse.sureness import sure_answers
from mumhouse.surepapers import limit_tree, sure_tree
from tests import reference
from tests.samples import ALWAYS, ANN, ANY, BOB, IS, SCENE, SIXTY, SUM, Case, with_item
from tests.test_knowing import UNFIT_ASKS
from tests.test_treechecker import NO_PAIRS
from tests.test_views import WRONG_SHAPES

HALL = Hall(SCENE)
NOT_MUM = HALL(SUM, (4,))
ALONE = ((0,), (1,), (2,))
ENDS = ((), (), ())
ONE = ((0,), (1, 2))
# A sure tree for BOB.
BOBS = ((ALONE, ENDS),)
# All groupings of ANN that are mum aloud, each with a group that is no whole answer where there is one.
ANNS = ((((0,), (1, 2)), 1, ()), (((0, 1, 2),), 0, ()), (((0, 2), (1,)), 0, ()))


def sure_number(hall, asks, tree):
    """The number of a sure tree by point 51, counted anew; fails if it is none."""
    assert isinstance(tree, tuple) and len(tree) == len(asks)
    found = []
    for j, (grouping, trees) in enumerate(tree):
        assert isinstance(tree[j], tuple) and isinstance(trees, tuple) and len(trees) == len(grouping)
        assert grouping in reference.mum_groupings(hall, asks[j])
        for group, within in zip(grouping, trees):
            there = reference.behind(hall, asks[j], group)
            found.append((len(group) == 1) + sure_number(there, asks[:j] + asks[j + 1:], within))
    return min(found, default=0)


def limit_number(hall, asks, tree):
    """The number of a limit tree by point 51, counted anew; fails if it is none."""
    if not asks:
        assert tree == () and isinstance(tree, tuple)
        return 0
    index, rows = tree
    assert isinstance(tree, tuple) and isinstance(rows, tuple) and all(isinstance(row, tuple) for row in rows)
    assert [row[0] for row in rows] == reference.mum_groupings(hall, asks[index])
    others = asks[:index] + asks[index + 1:]
    return max((len(grouping[n]) == 1) + limit_number(reference.behind(hall, asks[index], grouping[n]), others, within)
               for grouping, n, within in rows)


class Trees:
    """Makes any sure tree and any limit tree."""

    def __init__(self, seed):
        self.maker = reference.HallMaker(seed)

    def sure(self, hall, asks):
        answers = []
        for j, ask in enumerate(asks):
            grouping = self.maker.random.choice(reference.mum_groupings(hall, ask))
            trees = [self.sure(reference.behind(hall, ask, group), asks[:j] + asks[j + 1:]) for group in grouping]
            answers.append((grouping, tuple(trees)))
        return tuple(answers)

    def limit(self, hall, asks):
        if not asks:
            return ()
        index = self.maker.random.randrange(len(asks))
        rows = []
        for grouping in reference.mum_groupings(hall, asks[index]):
            n = self.maker.random.randrange(len(grouping))
            there = reference.behind(hall, asks[index], grouping[n])
            rows.append((grouping, n, self.limit(there, asks[:index] + asks[index + 1:])))
        return index, tuple(rows)


class PapersTest(Case):
    def test_what_is_returned_is_accepted(self):
        maker = reference.HallMaker(191)
        for k in range(120):
            hall = maker.mum_hall()
            asks = maker.asks(hall, 3 if k % 3 == 0 else 2, 4)
            number = sure_answers(hall, asks)
            sure, limit = sure_tree(hall, asks), limit_tree(hall, asks)
            self.same([lets_sure(hall, asks, sure), lets_limit(hall, asks, limit)], [number, number])
            plain = reference.plain(hall)
            self.same([sure_number(plain, asks, sure), limit_number(plain, asks, limit)], [number, number])

    def test_not_mum(self):
        for hall in (NOT_MUM, HALL.with_secret(ALWAYS), HALL.with_permit('x', ANN, ALONE)):
            for asks in ((), (BOB,), (SUM, ANN, BOB)):
                self.same([sure_tree(hall, asks), limit_tree(hall, asks)], [None, None])

    def test_no_asks(self):
        self.same([sure_tree(HALL, ()), limit_tree(HALL, ())], [(), ()])
        self.same([lets_sure(HALL, (), ()), lets_limit(HALL, (), ())], [0, 0])

    def test_forms(self):
        self.same([sure_tree(hall=HALL, asks=(BOB,)), limit_tree(hall=HALL, asks=(7,))], [BOBS, (0, ((((7,),), 0, ()),))])
        self.same(sure_tree(HALL, (7, 7)), ((((7,),), (((((7,),), ((),)),),)),) * 2)

    def test_the_limits(self):
        hall, (one, other, _, last) = reference.limit_hall()
        for asks, number in (((one, other, last), 1), ((one, other), 0)):
            self.same([lets_sure(hall, asks, sure_tree(hall, asks)), lets_limit(hall, asks, limit_tree(hall, asks))],
                      [number] * 2)

    def test_unfit(self):
        for hall in (HALL, NOT_MUM):
            for thing, path in UNFIT_ASKS:
                for asks in ((thing,), (ANN, thing, ('+', ('+', 1, True), 1)), (ANN, BOB, thing)):
                    for function, *given in ((sure_tree,), (limit_tree,), (lets_sure, None), (lets_limit, None)):
                        self.raises(UnfitExpression, [path], function, hall, asks, *given)


class AnyTreeTest(Case):
    def test_examples(self):
        self.same(lets_sure(HALL, (BOB,), ((((0,), (1,), (2,)), ((), (), ())),)), 1)
        self.same(lets_limit(HALL, (ANN,), (0, ((((0,), (1, 2)), 1, ()), (((0, 1, 2),), 0, ()), (((0, 2), (1,)), 0, ())))), 0)

    def test_any_tree_is_accepted(self):
        trees = Trees(192)
        for k in range(150):
            hall = trees.maker.mum_hall()
            asks = trees.maker.asks(hall, 3 if k % 5 == 0 else 2, 4)
            plain = reference.plain(hall)
            sure, limit = trees.sure(plain, asks), trees.limit(plain, asks)
            self.same(lets_sure(hall, asks, sure), sure_number(plain, asks, sure))
            self.same(lets_limit(hall, asks, limit), limit_number(plain, asks, limit))
            self.assertLessEqual(lets_sure(hall, asks, sure), sure_answers(hall, asks))
            self.assertGreaterEqual(lets_limit(hall, asks, limit), sure_answers(hall, asks))

    def test_numbers(self):
        self.same(lets_sure(HALL, (BOB,), ((((0, 1, 2),), ((),)),)), 0)
        self.same(lets_sure(thing=((ONE, ((), ())),), asks=(ANN,), hall=HALL), 0)
        self.same([lets_limit(HALL, (ANN,), (0, ANNS)),
                   lets_limit(asks=(ANN,), hall=HALL, thing=(0, with_item(ANNS, 0, (ONE, 0, ()))))], [0, 1])


class WrongSureTest(Case):
    def wrong(self, word, at, thing, asks=(BOB,), hall=HALL):
        self.raises(InvalidPaper, [word, at], lets_sure, hall, asks, thing)

    def within(self, word, at, thing, j=0, n=0):
        """The thing is wrong as what stands behind group n of ask j; at goes on from there."""
        tree = sure_tree(HALL, (ANN, BOB))
        grouping, trees = tree[j]
        self.wrong(word, (j, n, *at), with_item(tree, j, (grouping, with_item(trees, n, thing))), (ANN, BOB))

    def test_hall(self):
        for hall in (NOT_MUM, HALL.with_secret(ALWAYS), HALL.with_permit('x', ANN, ALONE)):
            for asks in ((), (BOB,), (SUM, ANN)):
                for thing in ((), None, BOBS):
                    self.wrong('hall', -1, thing, asks, hall)

    def test_shape(self):
        for thing in (*ANY, 0, SIXTY, BOBS * 2, list(BOBS), BOBS[0], HALL, 'a'):
            self.wrong('shape', (), thing)
            self.within('shape', (), thing, 0, 1)
            self.within('shape', (), thing, 1, 2)
        for thing in NO_PAIRS:
            self.wrong('shape', (), (thing,))
            self.wrong('shape', (), (BOBS[0], thing), (BOB, ANN))
            self.within('shape', (), (thing,), 1)
        for thing in (*ANY, 0, BOBS, ((),)):
            if thing != ():
                self.wrong('shape', (), thing, ())
                self.wrong('shape', (0, 1), ((ALONE, ((), thing, ())),))
        self.wrong('shape', (), BOBS, (BOB, ANN))

    def test_grouping(self):
        for grouping in (*WRONG_SHAPES, (), ((0,), (1,)), ((0, 3),), (*ALONE, (3,)), ((-1, 0), (1,), (2,))):
            self.wrong('grouping', (0,), ((grouping, ENDS),))
            self.wrong('grouping', (1,), (sure_tree(HALL, (ANN, BOB))[0], (grouping, ())), (ANN, BOB))
            self.within('grouping', (0,), ((grouping, ENDS),), 0, 1)

    def test_many(self):
        for trees in ((), ((),), ((), ()), (None,) * 4):
            self.wrong('many', (0,), ((ALONE, trees),))
            self.wrong('many', (1,), (sure_tree(HALL, (ANN, BOB))[0], (ALONE, trees)), (ANN, BOB))
            self.within('many', (0,), ((ALONE, trees),))

    def test_tells(self):
        self.wrong('tells', (0, 2), ((ALONE, ENDS),), (ANN,))
        self.wrong('tells', (0, 1), ((((0, 1), (2,)), (None, None)),), (ANN,))
        self.wrong('tells', (1, 4), (sure_tree(HALL, (BOB, SUM))[0], (((0,), (1,), (2,), (3,), (4,)), (None,) * 5)), (BOB, SUM))
        self.within('tells', (0, 2), ((ALONE, ENDS),), 1, 1)
        self.wrong('tells', (0, 0), ((ALONE, ENDS),), (ANN,), HALL.with_secret(('=', ANN, 0)))

    def test_several_at_once(self):
        sure = sure_tree(HALL, (ANN, BOB))
        self.wrong('hall', -1, None, (BOB,), NOT_MUM)
        self.wrong('shape', (), ((None, ()), None), (ANN, BOB))
        self.wrong('grouping', (0,), ((None, ()), (None, ())), (ANN, BOB))
        self.wrong('many', (0,), ((ALONE, ()), (None, ())), (ANN, BOB))
        self.wrong('tells', (0, 2), ((ALONE, (None, None, None)), (None, ())), (ANN, BOB))
        # What is within the answer to an ask comes before the answer to the next one.
        self.wrong('shape', (0, 1), (with_item(sure[0], 1, (sure[0][1][0], None)), (None, ())), (ANN, BOB))
        self.wrong('grouping', (0, 0, 0), (with_item(sure[0], 1, (((None, ()),), None)), (None, ())), (ANN, BOB))
        self.wrong('shape', (0, 0, 0, 0), (with_item(sure[0], 1, (((ALONE, (None, (), ())),), None)), (None, ())), (ANN, BOB))
        self.wrong('grouping', (1,), (sure[0], (None, (None,))), (ANN, BOB))


class WrongLimitTest(Case):
    def wrong(self, word, at, thing, asks=(ANN,), hall=HALL):
        self.raises(InvalidPaper, [word, at], lets_limit, hall, asks, thing)

    def within(self, word, at, thing, r=0):
        """The thing is wrong as the limit tree in row r."""
        index, rows = limit_tree(HALL, (ANN, BOB))
        self.same([index, len(rows)], [0, 3])
        self.wrong(word, (r, *at), (index, with_item(rows, r, (*rows[r][:2], thing))), (ANN, BOB))

    def test_hall(self):
        for hall in (NOT_MUM, HALL.with_secret(ALWAYS), HALL.with_permit('x', ANN, ALONE)):
            for asks in ((), (BOB,), (SUM, ANN)):
                for thing in ((), None, (0, ANNS)):
                    self.wrong('hall', -1, thing, asks, hall)

    def test_shape(self):
        for thing in (*NO_PAIRS, (0, ANNS, ()), [0, ANNS], (0, list(ANNS)), (0,), ANNS, ANNS[0]):
            self.wrong('shape', (), thing)
            self.within('shape', (), thing, 1)
            self.within('shape', (), thing, 2)
        for index in (*ANY, -1, -SIXTY, '0', [0]):
            self.wrong('shape', (), (index, ANNS))
            self.within('shape', (), (index, ()))
        for row in (*ANY, 0, ANNS[0][:2], (*ANNS[0], ()), list(ANNS[0]), 'abc',
                    *[with_item(ANNS[0], 1, n) for n in (*ANY, -1, '0')]):
            for r in range(3):
                self.wrong('shape', (), (0, with_item(ANNS, r, row)))
            self.wrong('shape', (), (9, (row,)))
        for thing in (*ANY, 0, (0, ANNS), ((),), SIXTY, HALL):
            if thing != ():
                self.wrong('shape', (), thing, ())
                self.wrong('shape', (2,), (0, with_item(ANNS, 2, (*ANNS[2][:2], thing))))

    def test_index(self):
        for index in (1, 2, SIXTY):
            self.wrong('index', (), (index, ANNS))
            self.wrong('index', (), (index, ()))
            self.within('index', (), (index, ()), 2)

    def test_rows(self):
        for rows in ((), ANNS[:2], ANNS[1:], ANNS[::-1], (*ANNS, ANNS[2]), (*ANNS, (ALONE, 2, ())), ((ALONE, 2, ()), *ANNS),
                     (ANNS[1], ANNS[0], ANNS[2])):
            self.wrong('rows', (), (0, rows))
        for grouping in (*WRONG_SHAPES, (), ALONE, ((0,), (1,)), ((0, 3),), ((0, 1), (2,))):
            for r in range(3):
                if grouping != ANNS[r][0]:
                    self.wrong('rows', (), (0, with_item(ANNS, r, (grouping, 0, ()))))
        self.within('rows', (), (0, ()), 1)
        self.within('rows', (), (0, ((ALONE, 0, ()),)), 1)

    def test_group(self):
        for r, size in enumerate((2, 1, 2)):
            for n in (size, size + 1, SIXTY):
                self.wrong('group', (r,), (0, with_item(ANNS, r, (ANNS[r][0], n, ()))))
        # Behind 0, all groupings of BOB are mum, and the first one of them has three groups.
        rows = reference.mum_groupings(reference.plain(HALL(ANN, (0,))), BOB)
        self.same([len(rows), rows[0]], [5, ALONE])
        index, above = limit_tree(HALL, (ANN, BOB))
        there = tuple((some, 3, ()) for some in rows)
        self.wrong('group', (0, 0), (index, with_item(above, 0, (ONE, 0, (0, there)))), (ANN, BOB))

    def test_several_at_once(self):
        self.wrong('hall', -1, None, (BOB,), NOT_MUM)
        self.wrong('shape', (), (5, (None,)))
        self.wrong('index', (), (5, ((None, 9, None),)))
        self.wrong('rows', (), (0, (*ANNS[:2], (None, 9, None))))
        self.wrong('group', (0,), (0, tuple((some, 9, None) for some, _, _ in ANNS)))
        # A tree with all that is in it comes before the next row.
        self.wrong('shape', (0,), (0, tuple((some, 9 if k else 0, None) for k, (some, _, _) in enumerate(ANNS))))
        self.wrong('group', (1,), (0, tuple((some, 9 if k else 0, None if k else ()) for k, (some, _, _) in enumerate(ANNS))))

    def test_the_index_counts_the_asks_that_are_left(self):
        rows = []
        for grouping in reference.mum_groupings(reference.plain(HALL), BOB):
            there = reference.behind(reference.plain(HALL), BOB, grouping[0])
            rows.append((grouping, 0, (1,
                                       tuple((some, 0,
                                              (0, ((((7,),), 0, ()),))) for some in reference.mum_groupings(there, ANN)))))
        tree = (1, tuple(rows))
        self.same(lets_limit(HALL, (7, BOB, ANN), tree), limit_number(reference.plain(HALL), (7, BOB, ANN), tree))
        self.same(lets_limit(HALL, (7, IS),
                             (1, ((((0,), (1,)), 1, (0, ((((7,),), 0, ()),))), (((0, 1),), 0, (0, ((((7,),), 0, ()),)))))), 2)
