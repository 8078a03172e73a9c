"""What is done with the events of services, and what is only asked of them: points 67, 68, 70 and 71."""

from mumhouse.errors import InvalidEvent, NothingToUndo, UnfitExpression, UnknownAsker
from mumhouse.halls import Hall
from mumhouse.measures import chosen
from mumhouse.mumness import is_mum
from mumhouse.replaying import replayed
from mumhouse.services import Service
from mumhouse.whynot import needed_drops
from tests import reference
from tests.samples import ALWAYS, ANN, ANY, BOB, IS, NEVER, SCENE, SUM, SUMS, TOP, W, Case
from tests.slow_service import EventMaker, SlowService
from tests.test_halls import NO_ASKERS
from tests.test_knowing import UNFIT_ASKS, UNFIT_STATEMENTS
from tests.test_services import NO_EVENTS, TRUE, ServiceCase, service_of

ALONE = ((0,), (1,), (2,))
RULES = ('alike', 'finest', 'bold')
# A row of possible events, and behind it one that is not possible.
ROW = (('permit', 'x', SUM), ('aloud', BOB), ('outside', ('=', ANN, 1)), ('alone', 'x', 0), ('rule', 'bold'),
       ('secret', NEVER, ('y',)))
BAD = (('drop', 7), 'number')


def state(service):
    """All that can be seen of a service, but for the counts."""
    hall = service.hall
    return repr([hall.scene, hall.worlds, hall.permits, service.rule, service.said, service.lost, service.log(), str(service),
                 len(service),
                 service.table(), [service.heard(asker) for asker in hall.scene[1]]])


class TriedTest(ServiceCase):
    def test_example(self):
        service = Service(SCENE, ((2,), (0,)))
        self.same(service.tried(('few', 2), ('permit', 'x', SUM), ('permit', 'y', ('of', 'bob', 'pay'))),
                  ((), ((0,), (1,), (2,), (3, 4)), ((0, 1, 2),)))

    def test_nothing_changes(self):
        service = Service(SCENE, TRUE)
        service.do_all(*ROW[:2])
        before = state(service)
        said = service.tried(*ROW[2:], ('drop', 0))
        self.same([said, state(service), service.counts()], [((False,), SUMS[2], (), (), ()), before, (1, 1)])
        for events, error in (((*ROW[2:], BAD[0], ('few', True)), BAD), ((('few', True), BAD[0]), (('few', True), 'shape')),
                              ((('asker', 'z'), ('asker', 'z')), (('asker', 'z'), 'asker'))):
            self.raises(InvalidEvent, error, service.tried, *events)
            self.same([state(service), service.counts()], [before, (1, 1)])
        self.same(service.tried(), ())

    def test_any_values(self):
        service = Service(SCENE, TRUE)
        for thing in NO_EVENTS:
            self.raises(InvalidEvent, [thing, 'shape'], service.tried, ('few', 0), thing, None)

    def test_full(self):
        service = Service(SCENE, TRUE)
        service.do_all(*[('few', 0)] * 38)
        self.same(service.tried(('few', 1), ('few', 0)), ((), ()))
        self.raises(InvalidEvent, [('drop', 9), 'full'], service.tried, ('few', 1), ('few', 0), ('drop', 9), None)
        self.raises(InvalidEvent, [None, 'shape'], service.tried, ('few', 1), ('few', 0), None, ('drop', 9))
        self.same([len(service), len(service.tried(('few', 1), ('few', 0)))], [38, 2])

    def test_as_if_applied(self):
        maker = EventMaker(221)
        for _ in range(15):
            scene, _, world, rule, permits = maker.beginning()
            service = Service(scene, world, rule=rule, permits=permits)
            events = []
            for _ in range(6):
                event = maker.event(reference.plain(service.hall))
                try:
                    service.tried(*events, event)
                    events.append(event)
                except InvalidEvent:
                    pass
            said = service.tried(*events)
            self.same(said, tuple([service.go(event) for event in events]))


class UndoTest(ServiceCase):
    def test_back_to_the_beginning(self):
        service = Service(SCENE, TRUE)
        states = [state(service)]
        for event in (*ROW, ('asker', 'a'), ('drop', 0), ('few', 0), ('alone', 'x', 0), ('outside', TOP[0])):
            service.go(event)
            states.append(state(service))
        events = service.log()[1:]
        for event, before in zip(events[::-1], states[-2::-1]):
            self.same([service.undo(), state(service)], [event, before])
        self.same(len(service), 0)
        for k in range(3):
            self.raises(NothingToUndo, [0], service.undo)
            self.same([state(service), service.counts()], [states[0], (23 + k, 23 + k)])

    def test_lost_secrets_come_back(self):
        service = Service(SCENE, TRUE)
        service.outside(TOP[0])
        self.same([service.lost, service.hall.scene[2]], [(TOP,), ()])
        self.same(service.undo(), ('outside', TOP[0]))
        self.is_now(service)

    def test_what_is_done_again(self):
        service = Service(SCENE, TRUE)
        first = [service.aloud(SUM), service.aloud(ANN)]
        there = state(service)
        service.undo()
        service.undo()
        self.same([[service.aloud(SUM), service.aloud(ANN)], state(service)], [first, there])


class AllTest(ServiceCase):
    def test_number(self):
        service = Service(SCENE, TRUE)
        self.same([service.do_all(), service.do_all(*ROW), service.do_all(ROW[0], keep=True), len(service)], [0, 6, 1, 7])
        one = Service(SCENE, TRUE)
        for event in (*ROW, ROW[0]):
            one.go(event)
        self.same([state(one), one == service, one.counts(), service.counts()], [state(service), True, (7, 7), (3, 3)])

    def test_after_an_error(self):
        for keep in (False, True):
            for first in (0, 1, 3, 6):
                service = Service(SCENE, TRUE)
                service.go(('few', 0))
                started = state(service)
                kept = Service(SCENE, TRUE)
                kept.do_all(('few', 0), *ROW[:first])
                self.raises(InvalidEvent, BAD, service.do_all, *ROW[:first], BAD[0], ('few', True), *ROW[first:], keep=keep)
                self.same([state(service), service.counts()], [state(kept) if keep else started, (2, 2)])
        service = Service(SCENE, TRUE)
        started = state(service)
        self.raises(InvalidEvent, BAD, service.do_all, *ROW, BAD[0])
        self.same(state(service), started)

    def test_any_values(self):
        for thing in NO_EVENTS:
            service = Service(SCENE, TRUE)
            self.raises(InvalidEvent, [thing, 'shape'], service.do_all, ('few', 0), thing, None, keep=True)
            self.same([len(service), service.counts()], [1, (1, 1)])

    def test_full(self):
        for keep, left in ((False, 1), (True, 40)):
            service = Service(SCENE, TRUE)
            service.aloud(7)
            self.raises(InvalidEvent, [('few', 3), 'full'], service.do_all, *[('few', 0)] * 39, ('few', 3), keep=keep)
            self.same([len(service), service.counts()], [left, (2, 2)])


class CountsTest(ServiceCase):
    def test_what_is_counted(self):
        service = Service(SCENE, TRUE)
        calls = (lambda: service.aloud(7), lambda: service(7), lambda: service.permit('x', 7), lambda: service.alone('x', 0),
                 lambda: service.secret(NEVER, ()), lambda: service.drop(1), lambda: service.outside(ALWAYS),
                 lambda: service.set_rule('bold'),
                 lambda: service.set_few(0), lambda: service.new_asker('z'), lambda: service.go(('few', 1)),
                 lambda: service.undo(),
                 lambda: service.do_all(), lambda: service.do_all(*ROW), lambda: service.do_all(*ROW[:3], keep=True))
        for k, call in enumerate(calls):
            self.same(service.counts(), (k, k))
            call()
        self.same(service.counts(), (15, 15))

    def test_errors_are_finished(self):
        service = Service(SCENE, TRUE)
        calls = (lambda: service.aloud(True), lambda: service(None), lambda: service.permit('z', 7),
                 lambda: service.alone('x', 0),
                 lambda: service.secret(ALWAYS, ()), lambda: service.drop(1), lambda: service.outside(0),
                 lambda: service.set_rule('plain'),
                 lambda: service.set_few(-1), lambda: service.new_asker('x'), lambda: service.go(None), lambda: service.undo(),
                 lambda: service.do_all(None), lambda: service.do_all(*ROW, None, keep=True))
        for k, call in enumerate(calls):
            self.same(service.counts(), (k, k))
            with self.assertRaises((InvalidEvent, NothingToUndo)):
                call()
        self.same([service.counts(), len(service)], [(14, 14), 6])

    def test_what_is_not_counted(self):
        service = Service(SCENE, TRUE)
        for ask in (lambda: service.heard('x'), lambda: len(service), lambda: TRUE in service, lambda: service == service,
                    lambda: service.tried(*ROW), service.table, service.log, lambda: str(service), lambda: service.next_grouping(SUM),
                    lambda: service.next_permit('x', SUM), lambda: service.drops_needed(SUM), lambda: service.knows((), TOP[0]),
                    service.counts, lambda: [service.hall, service.rule, service.said, service.lost]):
            ask()
        for call in (lambda: service.heard('z'), lambda: service.tried(None), lambda: service.next_grouping(None),
                     lambda: service.knows(0, 0)):
            with self.assertRaises(ValueError):
                call()
        self.same(service.counts(), (0, 0))


class QuestionsTest(ServiceCase):
    def test_examples(self):
        service = Service(SCENE, ((2,), (0,)), rule='alike')
        self.same([service.next_grouping(SUM), service.next_permit('x', ('of', 'bob', 'pay')), service.drops_needed(SUM)],
                  [((0, 1, 2, 3, 4),), ((0,), (1,), (2,)), (0,)])
        words = [service.outside(('=', SUM, 2)), service.permit('x', ('of', 'bob', 'pay'))]
        self.same([words, service.knows((), TOP[0]), service.knows(('x',), TOP[0])], [[(True,), ((0, 1, 2),)], None, None])

    def test_each_rule(self):
        for rule, grouping in (('alike', ((0, 1, 2, 3, 4),)), ('finest', SUMS), ('bold', ((0, 4), (1,), (2,), (3,)))):
            service = Service(SCENE, W[8], rule=rule)
            before = state(service)
            self.same([service.next_grouping(SUM), service.next_permit('y', SUM), service.next_grouping(BOB),
                       service.next_permit('y', BOB)],
                      [grouping, grouping, ALONE, ALONE])
            self.same([service.drops_needed(SUM), service.drops_needed(BOB), state(service), service.counts()],
                      [(0,), (), before, (0, 0)])
            self.same([service.permit('y', SUM), service.aloud(SUM)], [grouping, next(group for group in grouping if 4 in group)])

    def test_permits_by_each_rule(self):
        told = Hall(SCENE).with_permit('x', SUM, SUMS).with_few(2)
        for rule in RULES:
            service = Service(told.scene, TRUE, rule=rule, permits=told.permits)
            self.same(service.next_permit('y', BOB), ((0, 1, 2),))
            self.same(service.next_permit('y', IS), ((0, 1),))
            service.set_few(1)
            self.same(service.next_permit('y', IS), ((0,), (1,)))

    def test_as_the_document_says(self):
        maker = EventMaker(222)
        for _ in range(60):
            scene, worlds, world, rule, permits = maker.beginning()
            slow = SlowService(scene, worlds, world, rule, permits)
            service = Service(scene, world, rule=rule, permits=permits)
            for _ in range(3):
                event = maker.event(slow.hall)
                if slow.reason(event) is None:
                    service.go(event)
                    slow.apply(event)
            before = [state(service), service.counts()]
            ask, statement = maker.maker.ask(), maker.statement()
            if len(reference.values(slow.hall, ask)) < 6:
                self.same([service.next_grouping(ask), chosen(service.hall, ask, service.rule)], [slow.next_grouping(ask)] * 2)
                for asker in service.hall.scene[1]:
                    self.same(service.next_permit(asker, ask), slow.next_permit(asker, ask))
            self.same(service.drops_needed(ask), needed_drops(service.hall, ask))
            if statement[1:] != (('of', 'zed', 'pay'), 0):
                askers = service.hall.scene[1]
                for some in ((), askers[:1], askers[1:], askers[::-1], askers * 2):
                    self.same(service.knows(some, statement), slow.knows(some, statement))
            self.same([state(service), service.counts()], before)

    def test_a_permit_that_is_not_possible_now(self):
        service = Service(SCENE, TRUE, permits=(('x', 7, ((7,),)),) * 4)
        self.not_possible(service, ('permit', 'y', SUM), 'many')
        self.same(service.next_permit('y', SUM), SUMS)
        full = Service(SCENE, TRUE)
        full.do_all(*[('few', 1)] * 40)
        self.same([full.next_permit('y', SUM), full.next_grouping(SUM), full.knows((), TOP[0])], [SUMS, SUMS, None])

    def test_knows(self):
        service = Service(SCENE, TRUE, permits=(('x', SUM, SUMS), ('y', BOB, ALONE)))
        two = ('=', SUM, 2)
        self.same([service.knows(some, two) for some in ((), ('x',), ('y',), ('x', 'y'), ('y', 'x', 'x'))],
                  [None, True, None, True, True])
        self.same([service.knows(some, TOP[0]) for some in ((), ('x',), ('y',), ('x', 'y'))], [None, None, None, True])
        self.same([service.knows(some, ('<', BOB, 0)) for some in ((), ('x',))], [False, False])
        self.same([service.knows(some, ('=', BOB, 1)) for some in ((), ('x',), ('y',))], [None, None, False])
        self.same(service.knows(askers=(), statement=ALWAYS), True)
        other = Service(SCENE, W[4], permits=(('x', SUM, SUMS), ('y', BOB, ALONE)))
        self.same([other.knows(('x', 'y'), TOP[0]), other.knows(('x',), two)], [False, True])

    def test_errors(self):
        service = Service(SCENE, TRUE)
        for asker in NO_ASKERS:
            self.raises(UnknownAsker, [asker], service.next_permit, asker, True)
            self.raises(UnknownAsker, [asker], service.next_permit, asker, SUM)
            self.raises(UnknownAsker, [asker], service.knows, ('x', asker, 'w'), True)
        for askers in (*ANY, 0, 'x', ['x'], [], 'xy', None):
            if not isinstance(askers, tuple):
                self.raises(UnknownAsker, [askers], service.knows, askers, True)
                self.raises(UnknownAsker, [askers], service.knows, askers, TOP[0])
        for thing, path in UNFIT_ASKS:
            self.raises(UnfitExpression, [path], service.next_grouping, thing)
            self.raises(UnfitExpression, [path], service.next_permit, 'x', thing)
            self.raises(UnfitExpression, [path], service.drops_needed, thing)
        for thing, path in UNFIT_STATEMENTS:
            self.raises(UnfitExpression, [path], service.knows, (), thing)
            self.raises(UnfitExpression, [path], service.knows, ('x', 'y', 'x'), thing)


class AlikeTest(Case):
    def alike(self, one, other):
        """All that everybody may see is the same."""
        self.same([one.hall.scene, one.hall.worlds, one.hall.permits, one.rule, one.lost, one.said],
                  [other.hall.scene, other.hall.worlds, other.hall.permits, other.rule, other.lost, other.said])

    def possible(self, service, event):
        try:
            service.tried(event)
        except InvalidEvent as error:
            return error.reason
        return True

    def test_two_true_worlds(self):
        maker = EventMaker(223)
        parted = 0
        for _ in range(40):
            scene, worlds, world, rule, permits = maker.beginning(1)
            one = Service(scene, world, rule=rule, permits=permits)
            other = Service(scene, maker.random.choice(worlds), rule=rule, permits=permits)
            for _ in range(25):
                event = maker.event(reference.plain(one.hall))
                self.same(self.possible(one, event), self.possible(other, event))
                if self.possible(one, event) is not True:
                    continue
                before = [one.hall, other.hall]
                said = [one.go(event), other.go(event)]
                self.same([is_mum(one.hall), is_mum(other.hall)], [True, True])
                if event[0] in ('aloud', 'outside') and said[0] != said[1]:
                    parted += 1
                    break
                if event[0] != 'alone':
                    self.same(said[0], said[1])
                else:
                    self.same([one.hall == before[0], other.hall == before[1]], [True, True])
                self.alike(one, other)
        self.assertGreater(parted, 10)

    def test_permits_used_late_early_several_times_or_never(self):
        events = (('permit', 'x', SUM), ('aloud', BOB), ('permit', 'y', IS), ('outside', ('<', SUM, 4)), ('permit', 'x', ANN),
                  ('aloud', SUM))
        uses = (('alone', 'x', 0), ('alone', 'y', 0), ('alone', 'x', 1), ('alone', 'x', 0))
        orders = (events, (events[0], uses[0], *events[1:]), (*events, *uses),
                  (events[0], uses[0], *events[1:5], *uses, events[5], *uses))
        for world in W:
            services = [Service((*SCENE[:3], 2), world) for _ in orders]
            for service, order in zip(services, orders):
                service.do_all(*order)
                self.alike(service, services[0])
                for few in service.hall.fews():
                    for statement in reference.STATEMENTS:
                        self.same(service.knows(few, statement), services[0].knows(few, statement))

    def test_the_true_world_stays(self):
        maker = EventMaker(224)
        for _ in range(20):
            scene, _, world, rule, permits = maker.beginning()
            service = Service(scene, world, rule=rule, permits=permits)
            for _ in range(20):
                event = maker.event(reference.plain(service.hall))
                if self.possible(service, event) is True:
                    service.go(event)
                    self.same([world in service, is_mum(service.hall)], [True, True])
            self.same(replayed(service.log()) == service, True)

    def test_a_view_is_all_that_a_few_knows(self):
        # What a few has been told alone and what all have heard leaves exactly its view (S1).
        for world in W:
            service = service_of(TOP, world=world, few=2)
            service.do_all(('permit', 'x', SUM), ('permit', 'y', IS), ('aloud', ('*', ANN, BOB)), ('alone', 'x', 0),
                           ('alone', 'y', 0))
            said = dict(zip(('x', 'y'), [service.heard(name)[0][1] for name in ('x', 'y')]))
            asks = {'x': SUM, 'y': IS}
            for few in service.hall.fews():
                left = reference.plain(service.hall)
                for name in few:
                    left = reference.behind(left, asks[name], said[name])
                self.same(service.hall.view(few, world), left[1])
