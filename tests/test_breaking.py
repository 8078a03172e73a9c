"""Breaking the plain rule: points 56, 57 and 58."""

from itertools import product

from mumhouse.breakchecker import lets_break
from mumhouse.breaking import breaks_plain
from mumhouse.breakpapers import break_paper
from mumhouse.errors import InvalidPaper, UnfitExpression
from mumhouse.halls import Hall
from mumhouse.values import value_of
from tests import reference
from tests.samples import ALWAYS, ANN, ANY, BOB, IS, NEVER, NONE, SCENE, SIXTY, SUM, W, Case
from tests.test_knowing import UNFIT_ASKS

HALL = Hall(SCENE)
NOT_MUM = HALL(SUM, (4,))
ALONE = ((0,), (1,), (2,))
# The sets that are reached by BOB alone.
BOBS = tuple(sorted((W, W[::3], W[1::3], W[2::3])))


def table(values):
    """The ask that has these values where the number p of a is 0, 1, and so on."""
    ask = values[-1]
    for k in reversed(range(len(values) - 1)):
        ask = ('if', ('=', ('of', 'a', 'p'), k), values[k], ask)
    return ask


def among(numbers):
    """The statement that the number p of a is one of these."""
    statement = NEVER
    for k in numbers:
        statement = ('or', ('=', ('of', 'a', 'p'), k), statement)
    return statement


def plain_groups(hall, ask):
    """The groups of the plain grouping, as point 40 says it."""
    told = [value for value in reference.values(hall, ask) if not reference.mum(reference.behind(hall, ask, (value,)))]
    return [(value,) for value in reference.values(hall, ask) if value not in told] + [tuple(told)] * bool(told)


def walked(hall, asks, row, world):
    """The halls behind the first asks of a row in a world, from none to all of them."""
    halls = [hall]
    for j in row:
        value = value_of(hall[0][0], world, asks[j])
        group = next(group for group in plain_groups(halls[-1], asks[j]) if value in group)
        halls.append(reference.behind(halls[-1], asks[j], group))
    return halls


def breaks(hall, asks, row, world):
    return [reference.mum(some) for some in walked(hall, asks, row, world)] == [True] * len(row) + [False]


def first_break(hall, asks, most):
    """The shortest row with at most so many asks, the least of several, and its least world; None if there is none."""
    for size in range(most + 1):
        for row in product(range(len(asks)), repeat=size):
            for world in hall[1]:
                if breaks(hall, asks, row, world):
                    return row, world
    return None


def reached(hall, asks):
    """All sets of worlds to which the plain rule leads from a hall that it never breaks."""
    found = {hall[1]}
    coming = [hall]
    while coming:
        there = coming.pop()
        for ask in asks:
            for group in plain_groups(there, ask):
                behind = reference.behind(there, ask, group)
                if behind[1] not in found:
                    found.add(behind[1])
                    coming.append(behind)
    return tuple(sorted(found))


class BreakingTest(Case):
    def test_example(self):
        self.same([breaks_plain(HALL, (SUM,)), breaks_plain(HALL, (BOB,)), breaks_plain(HALL, (IS, NONE)), breaks_plain(NOT_MUM, ())],
                  [((0,), ((2,), (2,))), None, ((0, 1), ((2,), (0,))), ((), ((2,), (2,)))])

    def test_not_mum(self):
        for asks in ((), (SUM,), (BOB, ANN)):
            self.same(breaks_plain(NOT_MUM, asks), ((), W[8]))
            self.same(breaks_plain(HALL.with_secret(ALWAYS), asks), ((), W[0]))
            self.same(breaks_plain(HALL(SUM, (2, 4)).with_permit('x', SUM, ((2,), (4,))), asks), ((), W[2]))

    def test_no_asks(self):
        self.same([breaks_plain(HALL, ()), breaks_plain(HALL.without_secret(0), ())], [None, None])

    def test_none(self):
        self.same(breaks_plain(HALL.without_secret(0), (SUM, ANN, BOB)), None)
        self.same(breaks_plain(HALL, (7, BOB, 7)), None)

    def test_the_least_of_several(self):
        self.same(breaks_plain(HALL, (BOB, SUM, ANN)), ((1,), W[8]))
        self.same(breaks_plain(HALL, (ANN, SUM)), ((0,), W[6]))
        self.same(breaks_plain(HALL, (7, NONE, IS, NONE)), ((1, 2), W[6]))
        self.same(breaks_plain(hall=HALL, asks=(NONE, IS)), ((0, 1), W[6]))

    def test_an_ask_again(self):
        # What the second ask refuses at first it answers when less is possible.
        secrets = ((among((0, 1, 3)), ()), (among((1, 4, 5)), ()))
        hall = Hall(((('a',), (('p', 0, 5),), ()), ('x', 'y'), secrets, 1), None, (('x', table((1, 0, 0, 1, 1, 1)), ((0,), (1,))),))
        asks = (table((2, 2, 2, 0, 0, 1)), table((0, 2, 1, 2, 0, 1)))
        self.same(breaks_plain(hall, asks), ((1, 0, 1), ((1,),)))
        self.same(first_break(reference.plain(hall), asks, 3), ((1, 0, 1), ((1,),)))
        self.same(breaks_plain(hall, asks[::-1]), ((0, 1, 0), ((1,),)))
        self.same(breaks_plain(hall, (*asks, asks[1])), ((1, 0, 1), ((1,),)))
        self.same(breaks_plain(hall, (asks[1], *asks)), ((0, 1, 0), ((1,),)))
        self.same(lets_break(hall, asks, break_paper(hall, asks)), 3)

    def test_as_the_document_says(self):
        maker = reference.HallMaker(122)
        sizes = {}
        for _ in range(300):
            hall = maker.hall(2)
            asks = tuple(maker.ask() for _ in range(maker.random.randrange(1, 4)))
            found = breaks_plain(hall, asks)
            if found is None:
                self.same(first_break(reference.plain(hall), asks, 2), None)
                for worlds in reached(reference.plain(hall), asks):
                    self.same(reference.mum((hall.scene, worlds, hall.permits)), True)
            else:
                self.same(found, first_break(reference.plain(hall), asks, len(found[0])))
            sizes[found and len(found[0])] = True
        self.assertTrue({None, 0, 1, 2} <= set(sizes), sizes)

    def test_unfit(self):
        for hall in (HALL, NOT_MUM):
            for thing, path in UNFIT_ASKS:
                for asks in ((thing,), (ANN, thing, ('+', ('+', 1, True), 1)), (ANN, BOB, thing)):
                    self.raises(UnfitExpression, [path], breaks_plain, hall, asks)
                    self.raises(UnfitExpression, [path], break_paper, hall, asks)
                    self.raises(UnfitExpression, [path], lets_break, hall, asks, None)


class PaperTest(Case):
    def test_what_is_returned_is_accepted(self):
        maker = reference.HallMaker(123)
        for _ in range(150):
            hall = maker.hall(2)
            asks = tuple(maker.ask() for _ in range(maker.random.randrange(4)))
            found = breaks_plain(hall, asks)
            paper = break_paper(hall, asks)
            self.same(paper[0], 'safe' if found is None else 'breaks')
            self.same(lets_break(hall, asks, paper), None if found is None else len(found[0]))

    def test_forms(self):
        self.same(break_paper(HALL, (BOB,))[0], 'safe')
        self.same(break_paper(hall=HALL, asks=(SUM,)), ('breaks', (0,), W[8]))
        self.same(break_paper(NOT_MUM, (BOB,)), ('breaks', (), W[8]))
        self.same(break_paper(HALL, ()), ('safe', (W,)))


class BreaksTest(Case):
    def wrong(self, word, at, thing, asks=(IS, NONE), hall=HALL):
        self.raises(InvalidPaper, [word, at], lets_break, hall, asks, thing)

    def test_examples(self):
        self.same(lets_break(HALL, (IS, NONE), ('breaks', (0, 1), ((2,), (2,)))), 2)
        self.wrong('next', (0, 0), ('safe', (HALL.worlds,)), (BOB,))

    def test_accepted(self):
        self.same(lets_break(HALL, (SUM,), ('breaks', (0,), W[8])), 1)
        self.same(lets_break(NOT_MUM, (SUM,), ('breaks', (), W[8])), 0)
        for row in ((0, 1), (1, 0), (0, 0, 1), (1, 1, 1, 0)):
            for world in W[6:]:
                self.same(lets_break(asks=(IS, NONE), thing=('breaks', row, world), hall=HALL), len(row))
        self.same(lets_break(HALL, (BOB,), ('safe', BOBS)), None)
        self.same(lets_break(HALL, (), ('safe', (W,))), None)
        # Sets more are no harm if the plain rule leads from them to stated sets only.
        self.same(lets_break(HALL, (BOB,), ('safe', tuple(sorted((*BOBS, W[2:6:3]))))), None)

    def test_shape(self):
        for thing in (*ANY, 0, 'breaks', ('breaks',), ('safe',), ('breaks', (0,)), ('breaks', (0,), W[8], 0), ['breaks', (0,), W[8]],
                      ('breaks', [0], W[8]), ('breaks', None, W[8]), ('breaks', 0, W[8]), ('Breaks', (0,), W[8]), ('safe', (0,), W[8]),
                      ('breaks', ('0',), W[8]), ('breaks', (True,), W[8]), ('breaks', (0, False), W[8]), ('breaks', (-1,), W[8]),
                      ('breaks', (0, None), W[8]), ('breaks', (9, -1), None), ('safe', list(BOBS)), ('safe', None), ('safe', ''),
                      ['safe', BOBS], ('Safe', BOBS), ('breaks', BOBS), ('', BOBS), (True, BOBS), ('safe', BOBS, ()),
                      ('safe', (list(W),)), ('safe', (W, None)), ('safe', (W, 0)), ('safe', (None, W)), ('safe', (W, ''))):
            self.wrong('shape', -1, thing)

    def test_index(self):
        self.wrong('index', 0, ('breaks', (2,), W[8]))
        self.wrong('index', 1, ('breaks', (0, 2, 3), W[8]))
        self.wrong('index', 2, ('breaks', (0, 1, SIXTY), None))
        self.wrong('index', 0, ('breaks', (0,), W[8]), ())

    def test_world(self):
        for thing in (*ANY, 0, ((0,), (3,)), ((2,), (True,)), [(2,), (0,)], ((2,), [0]), W):
            self.wrong('world', -1, ('breaks', (0, 1), thing))
        self.wrong('world', -1, ('breaks', (), W[0]), (), NOT_MUM)

    def test_early(self):
        for k in range(3):
            self.wrong('early', 2, ('breaks', (0, 1, *[0] * (k + 1)), W[7]))
        self.wrong('early', 0, ('breaks', (0,), W[8]), (BOB,), NOT_MUM)
        self.wrong('early', 0, ('breaks', (0, 0), W[0]), (BOB,), HALL.with_secret(ALWAYS))
        self.wrong('early', 1, ('breaks', (0, 0), W[8]), (SUM,))

    def test_mum(self):
        self.wrong('mum', -1, ('breaks', (), W[8]))
        self.wrong('mum', -1, ('breaks', (0,), W[8]))
        self.wrong('mum', -1, ('breaks', (0, 0), W[8]))
        for world in W[:6]:
            self.wrong('mum', -1, ('breaks', (0, 1), world))
            self.wrong('mum', -1, ('breaks', (0, 1, 1, 0), world))
        self.wrong('mum', -1, ('breaks', (0,), W[7]), (SUM,))

    def test_several_at_once(self):
        self.wrong('index', 1, ('breaks', (0, 5), None))
        self.wrong('world', -1, ('breaks', (0, 0), None), (SUM,))
        self.wrong('early', 1, ('breaks', (0, 1, 0), W[8]), (SUM, BOB))

    def test_exactly_what_breaks(self):
        maker = reference.HallMaker(124)
        for _ in range(25):
            hall, asks = maker.hall(2), (maker.ask(), maker.ask())
            for size in range(3):
                for row in product(range(2), repeat=size):
                    for world in hall.worlds:
                        mums = [reference.mum(some) for some in walked(reference.plain(hall), asks, row, world)]
                        if False in mums[:-1]:
                            self.wrong('early', mums.index(False), ('breaks', row, world), asks, hall)
                        elif mums[-1]:
                            self.wrong('mum', -1, ('breaks', row, world), asks, hall)
                        else:
                            self.same(lets_break(hall, asks, ('breaks', row, world)), size)


class SafeTest(Case):
    def wrong(self, word, at, sets, asks=(BOB,), hall=HALL):
        self.raises(InvalidPaper, [word, at], lets_break, hall, asks, ('safe', sets))

    def test_set(self):
        for some in ((), (W[1], W[0]), (W[0], W[0]), (W[0], None), (None,), (0,), ((0,), (0,)), (((0,), (3,)),), (((0,), (False,)),),
                     (W[0], list(W[1])), (W,), ('',), (True,), (W[1], W[2], W[0])):
            self.wrong('set', 0, (some,))
            self.wrong('set', 0, (some, *BOBS))
            self.wrong('set', 2, (*BOBS[:2], some, *BOBS[2:]))
            self.wrong('set', 4, (*BOBS, some))
        self.wrong('set', 1, ((W[8],), W[:2]), (BOB,), NOT_MUM)

    def test_rise(self):
        for k in range(1, 4):
            self.wrong('rise', k, (*BOBS[:k], BOBS[k - 1], *BOBS[k:]))
            self.wrong('rise', k, (*BOBS[:k - 1], BOBS[k], BOBS[k - 1], *BOBS[k + 1:]))
        self.wrong('rise', 1, (W, W[:8]))
        self.wrong('rise', 1, (W[1:], W))

    def test_set_by_set(self):
        self.wrong('rise', 1, (BOBS[1], BOBS[0], ()))
        self.wrong('set', 1, (BOBS[1], (), BOBS[0]))

    def test_first(self):
        self.wrong('first', -1, ())
        self.wrong('first', -1, tuple(some for some in BOBS if some != W))
        self.wrong('first', -1, (W[:8],), ())

    def test_tells(self):
        self.wrong('tells', 0, ((W[8],),), (BOB,), NOT_MUM)
        self.wrong('tells', 4, (*BOBS, W[6:]))
        self.wrong('tells', 1, tuple(sorted((W, W[7:]))), ())
        self.wrong('tells', 2, ((W[0],), W, (W[1],)), (7,), HALL.with_secret(('=', BOB, 1)))

    def test_next(self):
        for k in range(4):
            if BOBS[k] != W:
                self.wrong('next', (0, 0), tuple(some for some in BOBS if some != BOBS[k]))
        self.wrong('next', (0, 1), BOBS, (BOB, ('+', BOB, IS)))
        self.wrong('next', (0, 0), BOBS, (('+', BOB, IS), BOB))
        self.wrong('next', (0, 0), tuple(sorted((*BOBS, (W[0], W[1])))))
        self.wrong('next', (1, 0), tuple(sorted((*BOBS, (W[0], W[3], W[4])))))
        self.wrong('next', (0, 1), (W,), (7, SUM))
        self.same(lets_break(HALL, (7, BOB, 7), ('safe', BOBS)), None)

    def test_set_by_set_again(self):
        self.wrong('next', (0, 0), (W, W[6:]), (BOB,))
        self.wrong('next', (1, 0), ((W[0],), W, (W[1],)), (BOB,), HALL.with_secret(('=', BOB, 1)))
        self.wrong('set', 2, (W, W[6:], ()))
        self.wrong('rise', 2, (W, W[6:], W[3:]))
        self.wrong('first', -1, (W[6:],))

    def test_only_what_is_never_broken_is_accepted(self):
        maker = reference.HallMaker(125)
        for _ in range(80):
            hall, asks = maker.hall(2), (maker.ask(), maker.ask())
            sets = reached(reference.plain(hall), asks)
            if breaks_plain(hall, asks) is None:
                self.same(lets_break(hall, asks, ('safe', sets)), None)
                left_out = maker.random.choice(sets)
                with self.assertRaises(InvalidPaper):
                    lets_break(hall, asks, ('safe', tuple(some for some in sets if some != left_out)))
            else:
                with self.assertRaises(InvalidPaper):
                    lets_break(hall, asks, ('safe', sets))
