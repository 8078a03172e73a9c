"""Halls: points 5 to 7, 35 and 36."""

from itertools import combinations, permutations

from mumhouse.errors import InvalidGrouping, InvalidHall, UnfitExpression, UnknownAsker
from mumhouse.halls import Hall
from mumhouse.houseclasses import House
from tests import reference
from tests.samples import (ALWAYS, ANN, ANY, BOB, IS, NEVER, PAY, SCENE, SIXTY, SUM, SUMS, TOP, TRIO, W, WRONG_NAMES, Case,
                           worlds_of)
from tests.test_knowing import UNFIT_ASKS, UNFIT_STATEMENTS
from tests.test_views import WRONG_SHAPES

HALL = Hall(SCENE)
TOLD = HALL.with_permit('x', SUM, SUMS)
ALONE = ((0,), (1,), (2,))
LOW = (*PAY[:2], (('<', SUM, 2),))
NO_ASKERS = (*[name for name in WRONG_NAMES], 'z', 'w', 'xx', 0, 1, ('x',), ['x'], ('x', 'y'), HALL)


class HallCase(Case):
    def wrong(self, word, at, scene=SCENE, worlds=None, permits=()):
        self.raises(InvalidHall, [word, at], Hall, scene, worlds, permits)

    def is_hall(self, hall, scene, worlds, permits=()):
        self.assertIs(type(hall), Hall)
        self.same([hall.scene, hall.worlds, hall.permits], [scene, worlds, permits])


class ConstructorTest(HallCase):
    def test_example(self):
        self.same([len(HALL), list(HALL.fews()), HALL.worlds[5]], [9, [(), ('x',), ('y',)], ((1,), (2,))])

    def test_worlds_none_and_given(self):
        self.is_hall(HALL, SCENE, W)
        self.is_hall(Hall(SCENE, None), SCENE, W)
        self.is_hall(Hall(SCENE, W[3:5]), SCENE, W[3:5])
        self.is_hall(Hall((LOW, (), (), 0)), (LOW, (), (), 0), (W[0], W[1], W[3]))
        self.is_hall(Hall((LOW, (), (), 0), (W[1],)), (LOW, (), (), 0), (W[1],))
        self.is_hall(Hall((TRIO, ('x',), (), 9)), (TRIO, ('x',), (), 9), worlds_of(TRIO))
        self.same(Hall(SCENE) == Hall(SCENE, W), True)

    def test_by_name(self):
        permits = (('x', SUM, SUMS),)
        self.is_hall(Hall(scene=SCENE, worlds=W[2:], permits=permits), SCENE, W[2:], permits)
        self.is_hall(Hall(SCENE, permits=permits), SCENE, W, permits)

    def test_right_scenes(self):
        for scene in ((PAY, (), (), 0), (PAY, ('x',), (), SIXTY), (PAY, ('x', 'y', 'z'), (TOP, TOP, (ALWAYS, ('x', 'y', 'z'))), 2),
                      (PAY, ('ann', 'bob'), ((NEVER, ('bob',)),), 1)):
            self.is_hall(Hall(scene), scene, W)

    def test_scene(self):
        for thing in (*ANY, 0, SCENE[:3], (*SCENE, 1), list(SCENE), PAY, HALL):
            self.wrong('scene', -1, thing)

    def test_house(self):
        for thing in (*ANY, 0, (*PAY, ()), list(PAY), ((), *PAY[1:]), (PAY[0], (), ()), (('bob', 'ann'), *PAY[1:]),
                      (PAY[0], (('pay', 1, 0),), ()), (*PAY[:2], (('my', 'pay'),)), (*PAY[:2], (True,)), House(*PAY[:2])):
            self.wrong('house', -1, (thing, *SCENE[1:]))

    def test_askers(self):
        for thing in (*ANY, 0, ['x'], ('y', 'x'), ('x', 'x'), ('X',), ('x', 0), ('x', ''), 'x'):
            if thing not in ((), ('a',)):
                self.wrong('askers', -1, (PAY, thing, *SCENE[2:]))

    def test_secrets(self):
        for thing in (*ANY, 0, [TOP], TOP, (TOP[0],), (TOP, TOP[0]), (list(TOP),), ((*TOP, ()),), (TOP[:1],), (None,), (TOP, TOP, 0)):
            if thing != ():
                self.wrong('secrets', -1, (PAY, ('x', 'y'), thing, 1))

    def test_secret(self):
        for statement, _ in UNFIT_STATEMENTS:
            self.wrong('secret', 0, (PAY, ('x', 'y'), ((statement, ()),), 1))
            self.wrong('secret', 2, (PAY, ('x', 'y'), (TOP, TOP, (statement, ('x',)), (None, None)), 1))
        for knowers in (*ANY, 0, ('z',), ('x', 'z'), ('y', 'x'), ('x', 'x'), ['x'], 'x', ('x', 0)):
            if knowers != ():
                self.wrong('secret', 0, (PAY, ('x', 'y'), ((ALWAYS, knowers),), 1))
                self.wrong('secret', 1, (PAY, ('x', 'y'), (TOP, (ALWAYS, knowers), (True, ())), 1))

    def test_few(self):
        for few in (*ANY, -1, -SIXTY, '1', (1,), [1]):
            self.wrong('few', -1, (*SCENE[:3], few))

    def test_worlds(self):
        for thing in (True, False, '', '0', 'a', [], [0], list(W), 0, 1, ()):
            self.wrong('worlds', -1, SCENE, thing)
        self.wrong('worlds', -1, ((*PAY[:2], (NEVER,)), *SCENE[1:]))
        self.wrong('worlds', -1, ((*PAY[:2], (NEVER,)), *SCENE[1:]), None)
        self.wrong('worlds', -1, ((*PAY[:2], (('<', SUM, 0), ALWAYS)), *SCENE[1:]))

    def test_world(self):
        for thing in (*ANY, 0, W, ((0,),), ((0,), (3,)), ((0,), (True,)), [(0,), (0,)], ((0,), [0]), ((-1,), (0,)), ((0, 0), (0,))):
            self.wrong('world', 0, SCENE, (thing,))
            self.wrong('world', 2, SCENE, (W[0], W[1], thing, W[3]))
            self.wrong('world', 8, SCENE, (*W[:8], thing))
        self.wrong('world', 1, SCENE, (W[0], W[0]))
        self.wrong('world', 3, SCENE, (W[0], W[1], W[5], W[2], W[8]))
        self.wrong('world', 1, SCENE, (W[8], W[0], W[0]))
        low = (LOW, *SCENE[1:])
        self.wrong('world', 1, low, (W[0], W[2], W[3]))
        self.wrong('world', 0, low, (W[8],))
        self.wrong('world', 1, low, (W[0], W[2], None))
        self.wrong('world', 1, low, (W[0], None, W[2]))
        self.wrong('world', 2, low, (W[1], W[3], W[0], W[8]))
        self.wrong('world', 0, low, (W[2], W[0]))
        self.wrong('world', 0, ((*PAY[:2], (NEVER,)), *SCENE[1:]), W)

    def test_permits(self):
        for thing in (*ANY, 0, [('x', SUM, SUMS)], 'xyz'):
            if not isinstance(thing, tuple):
                self.wrong('permits', -1, permits=thing)

    def test_permit(self):
        right = ('x', SUM, SUMS)
        for thing in (*ANY, 0, right[:2], (*right, ()), list(right), ('x', SUM), (SUM, 'x', SUMS), 'xyz', HALL):
            self.wrong('permit', 0, permits=(thing,))
            self.wrong('permit', 2, permits=(right, right, thing, None))
        for asker in NO_ASKERS:
            self.wrong('permit', 0, permits=((asker, SUM, SUMS),))
        for ask, _ in UNFIT_ASKS:
            self.wrong('permit', 1, permits=(right, ('y', ask, SUMS)))
        for grouping in WRONG_SHAPES:
            self.wrong('permit', 0, permits=(('y', ANN, grouping),))
        for grouping in ((), ((0,), (1,)), ((0, 2),), ((1,), (2,)), ((0,), (2,), (3,))):
            self.wrong('permit', 1, permits=(right, ('y', ANN, grouping)))

    def test_permits_with_values_more(self):
        permits = (('x', ANN, ((-3, 0, 1), (2,), (7, 8))), ('y', BOB, ((0, 1, 2, 3),)), ('x', 7, ((7,), (8,))))
        self.is_hall(Hall(SCENE, None, permits), SCENE, W, permits)
        self.is_hall(Hall(SCENE, W[:3], (('x', ANN, ((0,),)),)), SCENE, W[:3], (('x', ANN, ((0,),)),))
        self.wrong('permit', 0, worlds=W[:4], permits=(('x', ANN, ((0,),)),))

    def test_the_first_of_several(self):
        bad = ((('bob', 'ann'), (), ()), ('y', 'x'), ((True, ()), None), True)
        good = (PAY, ('x', 'y'), (TOP, TOP), 1)
        words = [('house', -1), ('askers', -1), ('secrets', -1), ('few', -1)]
        for k in range(4):
            self.wrong(*words[k], (*good[:k], *bad[k:]), (), [])
        self.wrong('secret', 1, (PAY, ('x', 'y'), (TOP, (True, ()), (ALWAYS, ('z',))), True), (), [])
        self.wrong('secret', 0, (PAY, ('x', 'y'), ((ALWAYS, ('z',)), (True, ())), True), (), [])
        self.wrong('worlds', -1, SCENE, (), [])
        self.wrong('world', 1, SCENE, (W[0], None), [])
        self.wrong('worlds', -1, ((*PAY[:2], (NEVER,)), *SCENE[1:]), None, [])
        self.wrong('permits', -1, SCENE, W, [])
        self.wrong('permit', 0, SCENE, W, (('z', True, None), None))


class QuestionsTest(HallCase):
    def test_length_and_contains(self):
        for worlds in (W, W[2:5], W[8:]):
            hall = Hall(SCENE, worlds)
            self.same(len(hall), len(worlds))
            self.same([world in hall for world in W], [world in worlds for world in W])
        for thing in (*ANY, 0, 1, W, ((0,), (3,)), ((0,), (True,)), ((False,), (0,)), [(0,), (0,)], ((0,), [0]), ((0,),), HALL):
            self.same(thing in HALL, False)

    def test_equal(self):
        scenes = (SCENE, (*SCENE[:3], 2), (PAY, ('x',), (TOP,), 1), (PAY, ('x', 'y'), (), 1), (PAY, ('x', 'y'), (TOP, TOP), 1),
                  (PAY, ('x', 'y'), ((TOP[0], ('x',)),), 1), ((*PAY[:2], (ALWAYS,)), *SCENE[1:]))
        rows = [(scene, W, ()) for scene in scenes]
        rows += [(SCENE, W[1:], ()), (SCENE, W[:3], ()), (SCENE, W, (('x', SUM, SUMS),)), (SCENE, W, (('y', SUM, SUMS),)),
                 (SCENE, W, (('x', ANN, ALONE),)), (SCENE, W, (('x', SUM, SUMS), ('x', SUM, SUMS))),
                 (SCENE, W, (('x', SUM, (*SUMS, (5,))),)), (SCENE, W, (('x', ANN, ALONE), ('y', ANN, ALONE))),
                 (SCENE, W, (('y', ANN, ALONE), ('x', ANN, ALONE)))]
        for one in rows:
            for other in rows:
                self.same([Hall(*one) == Hall(*other), Hall(*one) != Hall(*other)], [one == other, one != other])
            for other in (*ANY, 0, one, list(one)):
                self.same([Hall(*one) == other, other == Hall(*one)], [False, False])

    def test_deep_secrets(self):
        deep = ALWAYS
        for _ in range(3000):
            deep = ('not', deep)
        one, other = [Hall((PAY, ('x',), ((deep, ()),), 1)) for _ in range(2)]
        self.same([one == other, one == one.with_secret(ALWAYS)], [True, False])

    def test_fews(self):
        for askers in ((), ('x',), ('x', 'y'), ('a', 'b', 'c'), ('a', 'b', 'c', 'd')):
            for most in (0, 1, 2, 3, 4, 5, SIXTY):
                due = [few for size in range(5) if size <= most for few in combinations(askers, size)]
                self.same(list(Hall((PAY, askers, (), most)).fews()), due)
        self.same(list(Hall((PAY, ('x', 'y', 'z'), (), 2)).fews()),
                  [(), ('x',), ('y',), ('z',), ('x', 'y'), ('x', 'z'), ('y', 'z')])

    def test_fews_walked_twice_at_once(self):
        one, other = HALL.fews(), HALL.fews()
        self.same([next(one), next(one), next(other), next(one), next(other)], [(), ('x',), (), ('y',), ('x',)])

    def test_a_hall_does_not_change(self):
        permits = (('x', SUM, SUMS),)
        hall = Hall(SCENE, W, permits)
        for use in (lambda: hall(SUM, (3, 4)), lambda: hall.with_permit('y', ANN, ALONE), lambda: hall.with_secret(ALWAYS, 'x'),
                    lambda: hall.without_secret(0), lambda: hall.with_few(3), lambda: list(hall.fews()),
                    lambda: hall.view(('x', 'y'), W[0]), lambda: len(hall), lambda: hall == HALL, lambda: W[0] in hall):
            use()
            self.is_hall(hall, SCENE, W, permits)
        for name in ('scene', 'worlds', 'permits'):
            with self.assertRaises(AttributeError):
                setattr(hall, name, ())


class ViewTest(HallCase):
    def test_example(self):
        self.same([TOLD.view(('x',), ((2,), (0,))), HALL(SUM, (3, 4)).worlds],
                  [(((0,), (2,)), ((1,), (1,)), ((2,), (0,))), (((1,), (2,)), ((2,), (1,)), ((2,), (2,)))])

    def test_without_permits(self):
        for few in ((), ('x',), ('y', 'x')):
            self.same(HALL.view(few, W[4]), W)

    def test_names_in_any_order_and_repeated(self):
        hall = Hall(SCENE, W, (('x', ANN, ((0,), (1, 2))), ('y', BOB, ((0, 2), (1,)))))
        self.same(hall.view(('x',), W[8]), W[3:])
        self.same(hall.view(('y',), W[8]), (W[0], W[2], W[3], W[5], W[6], W[8]))
        for few in (('x', 'y'), ('y', 'x'), ('x', 'y', 'x'), ('y', 'y', 'x', 'x', 'x', 'y', 'y')):
            self.same(hall.view(few, W[8]), (W[3], W[5], W[6], W[8]))
        self.same(hall.view(('x', 'x'), W[8]), W[3:])
        self.same(hall.view(few=('x',), world=W[0]), W[:3])

    def test_as_the_document_says(self):
        maker = reference.HallMaker(61)
        for _ in range(80):
            hall = maker.hall(4)
            askers = hall.scene[1]
            for few in [few for size in range(len(askers) + 1) for few in permutations(askers, size)]:
                world = maker.random.choice(hall.worlds)
                self.same(hall.view(few, world), reference.view(reference.plain(hall), few, world))

    def test_unknown(self):
        for asker in ('z', '', 'X', 'xx', 'ann'):
            for world in (W[0], None):
                self.raises(UnknownAsker, [asker], HALL.view, (asker,), world)
                self.raises(UnknownAsker, [asker], HALL.view, ('x', 'y', 'x', asker, 'w'), world)
        for asker in NO_ASKERS:
            self.raises(UnknownAsker, [asker], HALL.view, ('x', asker), None)

    def test_no_world(self):
        for thing in (*ANY, 0, W, ((0,), (3,)), ((0,), (True,)), [(0,), (0,)], ((0,), [0]), HALL):
            for few in ((), ('x',)):
                self.raises(InvalidHall, ['world', thing], HALL.view, few, thing)
        self.raises(InvalidHall, ['world', W[0]], HALL(SUM, (3, 4)).view, (), W[0])


class AloudTest(HallCase):
    def test_behind(self):
        for ask in (SUM, ANN, IS, 7):
            found = reference.values(reference.plain(HALL), ask)
            for group in [group for size in range(1, len(found) + 1) for group in combinations(found, size)]:
                scene, worlds, permits = reference.behind(reference.plain(TOLD), ask, group)
                self.is_hall(TOLD(ask, group), scene, worlds, permits)
        self.same(HALL(SUM, (3, 4))(ANN, (2,)).worlds, W[7:])
        self.same(HALL(ask=SUM, group=(4,)).worlds, W[8:])

    def test_group(self):
        for thing in (*ANY, 0, [3], (3, 3), (4, 3), (5,), (-1,), (0, 5), ('3',), (3, None), ((3,),), (0, True), SUMS):
            if thing != (0,):
                self.raises(InvalidGrouping, ['group', -1], HALL, SUM, thing)
        self.raises(InvalidGrouping, ['group', -1], HALL(SUM, (3, 4)), SUM, (2,))
        self.raises(InvalidGrouping, ['group', -1], HALL, IS, (True,))
        self.raises(InvalidGrouping, ['group', -1], HALL, IS, (0, 1, 2))

    def test_ask_first(self):
        for thing, path in UNFIT_ASKS:
            self.raises(UnfitExpression, [path], HALL, thing, (0,))
            self.raises(UnfitExpression, [path], HALL, thing, None)


class PermitTest(HallCase):
    def test_with_permit(self):
        self.is_hall(TOLD, SCENE, W, (('x', SUM, SUMS),))
        self.is_hall(TOLD.with_permit('y', BOB, ALONE), SCENE, W, (('x', SUM, SUMS), ('y', BOB, ALONE)))
        self.is_hall(TOLD.with_permit(grouping=ALONE, ask=BOB, asker='x').with_permit('x', 7, ((7,),)), SCENE, W,
                     (('x', SUM, SUMS), ('x', BOB, ALONE), ('x', 7, ((7,),))))
        self.is_hall(HALL.with_permit('x', ANN, ((0, 2), (1,))), SCENE, W, (('x', ANN, ((0, 2), (1,))),))
        # The permits before keep their values more, also behind what is said aloud.
        self.is_hall(TOLD(SUM, (0, 1)).with_permit('y', SUM, ((0,), (1,))), SCENE, (W[0], W[1], W[3]),
                     (('x', SUM, SUMS), ('y', SUM, ((0,), (1,)))))

    def test_errors_in_order(self):
        for asker in NO_ASKERS:
            self.raises(UnknownAsker, [asker], HALL.with_permit, asker, True, None)
            self.raises(UnknownAsker, [asker], HALL.with_permit, asker, SUM, SUMS)
        for thing, path in UNFIT_ASKS:
            self.raises(UnfitExpression, [path], HALL.with_permit, 'x', thing, None)
        for grouping in WRONG_SHAPES:
            self.raises(InvalidGrouping, ['shape', -1], HALL.with_permit, 'x', ANN, grouping)
        for grouping in ((), ((0,), (1,)), ((0, 2),), (*ALONE, (3,)), ((-1, 0), (1,), (2,)), ((3,), (4,), (5,))):
            self.raises(InvalidGrouping, ['values', -1], HALL.with_permit, 'x', ANN, grouping)
        self.raises(InvalidGrouping, ['values', -1], HALL(SUM, (0, 1)).with_permit, 'x', ANN, ALONE)


class SceneTest(HallCase):
    def test_with_secret(self):
        self.is_hall(TOLD.with_secret(ALWAYS), (PAY, ('x', 'y'), (TOP, (ALWAYS, ())), 1), W, (('x', SUM, SUMS),))
        for knowers in (('x', 'y'), ('y', 'x'), ('y', 'y', 'x', 'y')):
            self.is_hall(HALL.with_secret(NEVER, *knowers), (PAY, ('x', 'y'), (TOP, (NEVER, ('x', 'y'))), 1), W)
        self.is_hall(HALL.with_secret(TOP[0], 'y', 'y'), (PAY, ('x', 'y'), (TOP, (TOP[0], ('y',))), 1), W)
        self.is_hall(HALL.with_secret(statement=ALWAYS), (PAY, ('x', 'y'), (TOP, (ALWAYS, ())), 1), W)

    def test_with_secret_errors_in_order(self):
        for asker in NO_ASKERS:
            self.raises(UnknownAsker, [asker], HALL.with_secret, True, asker)
            self.raises(UnknownAsker, [asker], HALL.with_secret, TOP[0], 'x', 'y', asker, 'w')
        for thing, path in UNFIT_STATEMENTS:
            self.raises(UnfitExpression, [path], HALL.with_secret, thing)
            self.raises(UnfitExpression, [path], HALL.with_secret, thing, 'x')

    def test_without_secret(self):
        secrets = (TOP, (ALWAYS, ('x',)), (NEVER, ()))
        hall = Hall((PAY, ('x', 'y'), secrets, 1), W[2:], (('x', SUM, SUMS),))
        self.is_hall(hall.without_secret(0), (PAY, ('x', 'y'), secrets[1:], 1), W[2:], (('x', SUM, SUMS),))
        self.is_hall(hall.without_secret(1), (PAY, ('x', 'y'), (secrets[0], secrets[2]), 1), W[2:], (('x', SUM, SUMS),))
        self.is_hall(hall.without_secret(k=2), (PAY, ('x', 'y'), secrets[:2], 1), W[2:], (('x', SUM, SUMS),))
        self.is_hall(HALL.without_secret(0), (PAY, ('x', 'y'), (), 1), W)
        for k in (*ANY, 3, -1, SIXTY, '0', (0,), TOP, HALL):
            self.raises(InvalidHall, ['secret', k], hall.without_secret, k)
        self.raises(InvalidHall, ['secret', 0], HALL.without_secret(0).without_secret, 0)

    def test_with_few(self):
        for few in (0, 1, 2, 3, 7, SIXTY):
            self.is_hall(TOLD.with_few(few), (*SCENE[:3], few), W, (('x', SUM, SUMS),))
        self.is_hall(HALL.with_few(few=2), (*SCENE[:3], 2), W)
        for few in (*ANY, -1, -SIXTY, '1', (1,), HALL):
            self.raises(InvalidHall, ['few', -1], HALL.with_few, few)

    def test_never_looks_whether_a_hall_is_mum(self):
        hall = Hall((PAY, ('x',), (TOP,), 1), W[6:])
        self.same([len(hall(SUM, (4,))), len(hall.with_few(0)), len(hall.with_secret(ALWAYS)),
                   len(hall.with_permit('x', SUM, ((2,), (3,), (4,))))], [1, 3, 3, 3])
