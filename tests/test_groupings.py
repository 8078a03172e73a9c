"""Groupings: points 5, 27, 28 and 29."""

from itertools import combinations

from mumhouse.errors import InvalidGrouping
from mumhouse.groupings import Grouping, all_groupings
from tests.samples import SIXTY, SUMS, Case

ANY = (True, False, None, '', '0', 'a', (), (0,), (True,), [], [0], ((0,),))


def partitions(values):
    """All groupings of the values, made by putting each value into a group or into a new one."""
    if not values:
        return [()]
    found = []
    for groups in partitions(values[1:]):
        found.append(tuple(sorted(((values[0],), *groups))))
        for k, group in enumerate(groups):
            found.append(tuple(sorted((tuple(sorted((values[0], *group))), *groups[:k], *groups[k + 1:]))))
    return sorted(found)


def refines(one, other):
    """Each group of one is a part of a group of the other."""
    return all(any(set(group) <= set(large) for large in other) for group in one)


def together(groups):
    return {pair for group in groups for pair in combinations(group, 2)}


THREE = [Grouping(groups) for groups in partitions((0, 1, 2))]
FOUR = [Grouping(groups) for groups in partitions((-5, 0, 3, SIXTY))]


class ShapeTest(Case):
    def test_groupings(self):
        for groups in ((), ((0,),), ((-1, 0, 1),), ((0,), (1, 2)), ((0, 2), (1,)), SUMS, ((-SIXTY, SIXTY), (0,)),
                       ((0, 9), (1, 3), (2,))):
            grouping = Grouping(groups)
            self.same(grouping.groups, groups)
            self.same(grouping.members, tuple(sorted(value for group in groups for value in group)))
            self.same(len(grouping), len(groups))
        self.same(Grouping(groups=SUMS).groups, SUMS)

    def test_wrong_shapes(self):
        for thing in (None, True, False, 0, '', '01', [], [(0,)], (0,), (1, 2), ((),), ((0,), ()), ([0],), ((0,), [1]),
                      ((0, 0),), ((1, 0),), ((0, 2, 1),), ((0,), (0,)), ((1,), (0,)), ((0, 1), (1,)), ((0, 1), (1, 2)),
                      ((0, 2), (1, 2)), ((1, 2), (0,)), ((True,),), ((False,), (1,)), ((0, True),), ((0,), (True,)),
                      ((0,), (None,)), (('0',),), ((0,), ((1,),)), ('a',), (None,), ((0,), (2,), (1,)), ((0, '1'),),
                      ((0,), 1), ((0, 5), (1, 2), (3, 5))):
            self.raises(InvalidGrouping, ['shape', -1], Grouping, thing)

    def test_a_grouping_is_no_tuple_of_groups(self):
        self.raises(InvalidGrouping, ['shape', -1], Grouping, Grouping(SUMS))


class QuestionsTest(Case):
    def test_example(self):
        g = Grouping(((0,), (1, 2)))
        h = Grouping(((0, 2), (1,)))
        self.same([(g & h).groups, (g | h).groups, g.group_of(2), (1, 2) in g, g.is_finer(h), (g & h).is_finer(h)],
                  [((0,), (1,), (2,)), ((0, 1, 2),), (1, 2), True, False, True])

    def test_contains(self):
        grouping = Grouping(((0,), (1, 2), (3,)))
        for group in grouping.groups:
            self.same(group in grouping, True)
        for thing in (*ANY, 0, 1, (1,), (2, 1), (1, 2, 3), [1, 2], (1, True), (1, '2'), (0, 1), ((1, 2),), -1):
            self.same(thing in grouping, thing == (0,) and thing is not False)
        self.same([(1,) in Grouping(((1,),)), (True,) in Grouping(((1,),)), (False,) in Grouping(((0,),)),
                   (1, False) in Grouping(((0, 1),)), () in Grouping(())], [True, False, False, False, False])

    def test_equal(self):
        for one in (*THREE, Grouping(()), Grouping(((1,),))):
            for other in (*THREE, Grouping(()), Grouping(((1,),))):
                self.same(one == other, one.groups == other.groups)
                self.same(one != other, one.groups != other.groups)
            for other in (*ANY, 0, 1, one.groups, list(one.groups), str(one.groups)):
                self.same([one == other, one != other], [False, True])
            self.same(one == Grouping(one.groups), True)

    def test_group_of(self):
        grouping = Grouping(((-7, 2), (0,), (1, SIXTY)))
        self.same([grouping.group_of(value) for value in (-7, 0, 1, 2, SIXTY)],
                  [(-7, 2), (0,), (1, SIXTY), (-7, 2), (1, SIXTY)])
        self.same(grouping.group_of(value=0), (0,))
        for value in (*ANY, -1, 3, SIXTY + 1, (-7, 2), '2'):
            self.raises(InvalidGrouping, ['value', value], grouping.group_of, value)
            self.raises(InvalidGrouping, ['value', value], Grouping(()).group_of, value)
        kept = [0]
        with self.assertRaises(InvalidGrouping) as caught:
            grouping.group_of(kept)
        self.assertIs(caught.exception.at, kept)

    def test_never_changes(self):
        for g in THREE:
            before = g.groups
            g & THREE[0], g | THREE[0], g.members, list(g.splits()), g.is_finer(THREE[0])
            if len(g) > 1:
                g.merged(0, 1)
            self.same(g.groups, before)
            for name in ('groups', 'members'):
                with self.assertRaises(AttributeError):
                    setattr(g, name, ())


class PairsTest(Case):
    def test_all_pairs(self):
        for every in (THREE, FOUR, [Grouping(())]):
            for g in every:
                for h in every:
                    finer = [k for k in every if refines(k.groups, g.groups) and refines(k.groups, h.groups)]
                    coarser = [k for k in every if refines(g.groups, k.groups) and refines(h.groups, k.groups)]
                    self.same((g & h).groups, min(finer, key=len).groups)
                    self.same((g | h).groups, max(coarser, key=len).groups)
                    self.same(g.is_finer(h), refines(g.groups, h.groups) and g.groups != h.groups)
                    self.assertIsInstance(g & h, Grouping)
                    self.assertIsInstance(g | h, Grouping)

    def test_consequences(self):
        for g in FOUR:
            for h in FOUR:
                self.same(g.is_finer(h), g & h == g and g != h)
                self.same(g.is_finer(h), g | h == h and g != h)
                self.same([g & h == h & g, g | h == h | g, g & (g | h) == g, g | (g & h) == g], [True] * 4)
                for k in FOUR[::4]:
                    self.same([(g & h) & k == g & (h & k), (g | h) | k == g | (h | k)], [True, True])

    def test_what_is_together(self):
        for g in FOUR:
            for h in FOUR:
                self.assertEqual(together((g & h).groups), together(g.groups) & together(h.groups))
                self.assertLessEqual(together(g.groups) | together(h.groups), together((g | h).groups))

    def test_chains(self):
        size = 40
        g = Grouping(tuple((k, k + 1) for k in range(0, size, 2)))
        h = Grouping(((0,), *((k, k + 1) for k in range(1, size - 1, 2)), (size - 1,)))
        self.same((g | h).groups, (tuple(range(size)),))
        self.same((h | g).groups, (tuple(range(size)),))
        self.same((g & h).groups, tuple((k,) for k in range(size)))

    def test_other_values(self):
        g = Grouping(((0,), (1, 2)))
        for h in (Grouping(()), Grouping(((0,),)), Grouping(((0, 1),)), Grouping(((0,), (1, 3))), Grouping(((0,), (1, 2, 3))),
                  Grouping(((0,), (1, 2), (3,)))):
            for one, other in ((g, h), (h, g)):
                self.raises(InvalidGrouping, ['values', -1], lambda: one & other)
                self.raises(InvalidGrouping, ['values', -1], lambda: one | other)
                self.raises(InvalidGrouping, ['values', -1], one.is_finer, other)


class MergedTest(Case):
    def test_merged(self):
        g = Grouping(((0, 9), (1,), (2, 5), (3,)))
        self.same(g.merged(0, 1).groups, ((0, 1, 9), (2, 5), (3,)))
        self.same(g.merged(1, 0).groups, ((0, 1, 9), (2, 5), (3,)))
        self.same(g.merged(2, 3).groups, ((0, 9), (1,), (2, 3, 5)))
        self.same(g.merged(3, 1).groups, ((0, 9), (1, 3), (2, 5)))
        self.same(g.merged(i=0, j=3).groups, ((0, 3, 9), (1,), (2, 5)))
        self.same(g.groups, ((0, 9), (1,), (2, 5), (3,)))
        self.assertIsInstance(g.merged(0, 1), Grouping)

    def test_wrong_indexes(self):
        g = Grouping(((0,), (1, 2)))
        for value in (*ANY, -1, 2, -2, SIXTY):
            self.raises(InvalidGrouping, ['group', value], g.merged, value, 0)
            self.raises(InvalidGrouping, ['group', value], g.merged, 0, value)
            self.raises(InvalidGrouping, ['group', value], g.merged, value, value)
            self.raises(InvalidGrouping, ['group', value], g.merged, value, 7)
            self.raises(InvalidGrouping, ['group', 7], g.merged, 7, value)
            self.raises(InvalidGrouping, ['group', value], Grouping(()).merged, value, 0)
        for k in (0, 1):
            self.raises(InvalidGrouping, ['same', -1], g.merged, k, k)


class SplitsTest(Case):
    def test_example(self):
        self.same([split.groups for split in Grouping.one((0, 1, 2)).splits()],
                  [((0,), (1, 2)), ((0, 1), (2,)), ((0, 2), (1,))])

    def test_all_splits(self):
        for values in ((), (4,), (0, 1), (-2, 0, 7), (0, 1, 2, 3), (-9, -3, 0, 1, SIXTY)):
            every = partitions(values)
            for groups in every:
                g = Grouping(groups)
                splits = list(g.splits())
                self.same([split.groups for split in splits],
                          sorted(each for each in every if len(each) == len(groups) + 1 and refines(each, groups)))
                self.same(len(splits), sum(2 ** (len(group) - 1) - 1 for group in groups))
                for split in splits:
                    self.assertIsInstance(split, Grouping)
                for each in every:
                    if refines(each, groups) and each != groups:
                        self.assertTrue(any(refines(each, split.groups) for split in splits))

    def test_several_large_groups(self):
        for groups in (((0, 2, 4), (1, 3, 5)), ((0, 4, 6, 8), (1,), (2, 3, 5, 7), (9, 10, 11)), ((0, 1, 2), (3, 4, 5), (6, 7))):
            found = [split.groups for split in Grouping(groups).splits()]
            self.same(found, sorted(found))
            self.same(len(set(found)), sum(2 ** (len(group) - 1) - 1 for group in groups))
            self.assertTrue(all(refines(each, groups) and len(each) == len(groups) + 1 for each in found))

    def test_two_generators_at_once(self):
        g = Grouping(((0, 3), (1, 2, 4)))
        due = [split.groups for split in g.splits()]
        self.same([[one.groups, other.groups] for one, other in zip(g.splits(), g.splits())], [[k, k] for k in due])
        first = g.splits()
        next(first)
        self.same(next(g.splits()).groups, due[0])
        self.same(next(first).groups, due[1])

    def test_one_by_one(self):
        found = Grouping.one(tuple(range(60))).splits()
        self.same(next(found).groups, ((0,), tuple(range(1, 60))))
        self.same(next(found).groups, ((0, 1), tuple(range(2, 60))))


class MakersTest(Case):
    def test_whole(self):
        self.same(Grouping.whole(()).groups, ())
        self.same(Grouping.whole((3,)).groups, ((3,),))
        self.same(Grouping.whole((3, -1, 0, 3, SIXTY, -1)).groups, ((-1,), (0,), (3,), (SIXTY,)))
        self.same(Grouping.whole(values=(1, 0)).groups, ((0,), (1,)))

    def test_one(self):
        self.same(Grouping.one(()).groups, ())
        self.same(Grouping.one((3,)).groups, ((3,),))
        self.same(Grouping.one((3, -1, 0, 3, SIXTY, -1)).groups, ((-1, 0, 3, SIXTY),))
        self.same(Grouping.one(values=(1, 0)).groups, ((0, 1),))
        self.assertIsInstance(Grouping.one(()), Grouping)
        self.assertIsInstance(Grouping.whole(()), Grouping)


class AllGroupingsTest(Case):
    def test_example(self):
        self.same(len(list(all_groupings((0, 1, 2, 3)))), 15)

    def test_in_order(self):
        self.same(list(all_groupings(())), [()])
        self.same(list(all_groupings(values=(5,))), [((5,),)])
        self.same(list(all_groupings((0, 1, 2))),
                  [((0,), (1,), (2,)), ((0,), (1, 2)), ((0, 1), (2,)), ((0, 1, 2),), ((0, 2), (1,))])
        for values in ((0, 1), (-3, 0, 3, SIXTY), (-9, -1, 0, 1, 2), tuple(range(7))):
            self.same(list(all_groupings(values)), partitions(values))

    def test_two_generators_at_once(self):
        values = (-1, 0, 4, 6)
        due = partitions(values)
        self.same([[one, other] for one, other in zip(all_groupings(values), all_groupings(values))], [[k, k] for k in due])

    def test_one_by_one(self):
        found = all_groupings(tuple(range(40)))
        self.same(next(found), tuple((k,) for k in range(40)))
        self.same(next(found), (*((k,) for k in range(38)), (38, 39)))
