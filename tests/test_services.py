"""Services: points 61 to 66 and 69."""

from mumhouse.errors import InvalidEvent, InvalidHall, UnknownAsker
from mumhouse.events import is_event
from mumhouse.halls import Hall
from mumhouse.mumness import is_mum
from mumhouse.services import Service
from tests import reference
from tests.samples import ALWAYS, ANN, ANY, BOB, IS, NEVER, PAY, SCENE, SIXTY, SUM, SUMS, TOP, W, WRONG_NAMES, Case
from tests.slow_service import EventMaker, SlowService
from tests.test_eventtexts import EVENTS
from tests.test_halls import NO_ASKERS
from tests.test_knowing import UNFIT_ASKS, UNFIT_STATEMENTS

TRUE = ((2,), (0,))
ALONE = ((0,), (1,), (2,))
FIVE = ((0,), (1,), (2,), (3,), (4,))
NEVER_MUM = (('=', SUM, SUM), ())
# Not one of these is an event by kind.
NO_EVENTS = (*ANY, 0, SIXTY, 'aloud', ('aloud',), ('aloud', SUM, 0), ['aloud', SUM], ('aloud', TOP[0]), ('aloud', True),
             ('aloud', None),
             ('aloud', list(SUM)), ('Aloud', SUM), (True, SUM), (('aloud',), SUM), (['aloud'], SUM), ([], 0), (0, SUM),
             ('permit', 'x'), ('permit', SUM), ('permit', 'X', SUM),
             ('permit', 'x', TOP[0]), ('permit', 'x', SUM, SUMS), ('permit', SUM, 'x'), ('permit', 'x', False), ('alone', 'x'),
             ('alone', 'x', True),
             ('alone', 'x', -1), ('alone', 'x', False), ('alone', 'x', '0'), ('alone', '', 0), ('alone', ('x',), 0),
             ('alone', 'x', 0, 0),
             ('secret', TOP[0]), ('secret', TOP[0], 'x'), ('secret', TOP[0], ['x']), ('secret', TOP[0], ('y', 'x')),
             ('secret', TOP[0], ('x', 'x')),
             ('secret', TOP[0], None), ('secret', SUM, ()), ('secret', TOP), ('secret', *TOP, ()), ('secret', True, ()),
             ('secret', TOP[0], ('X',)),
             ('drop',), ('drop', True), ('drop', False), ('drop', -1), ('drop', '0'), ('drop', None), ('drop', 0, 0),
             ('drop', (0,)),
             ('outside',), ('outside', SUM), ('outside', True), ('outside', TOP), ('outside', *TOP), ('rule',), ('rule', None),
             ('rule', 'Bold'),
             ('rule', ''), ('rule', ('bold',)), ('rule', 'bold', 'bold'), ('rule', 'abcdefghi'), ('few',), ('few', True),
             ('few', -1), ('few', None),
             ('few', '1'), ('few', 1, 1), ('asker',), ('asker', None), ('asker', 'Z'), ('asker', ''), ('asker', ('z',)),
             ('asker', 'z', 'z'),
             ('undo',), ('heard', 'x'), ('next', SUM), ('go', ('aloud', SUM)), ('aloud', ('+', 1, True)),
             ('outside', ('=', 1, True)))


def service_of(*secrets, askers=('x', 'y'), few=1, world=TRUE, **named):
    return Service((PAY, askers, secrets, few), world, **named)


class ServiceCase(Case):
    def is_now(self, service, scene=SCENE, worlds=W, permits=(), rule='finest', said=(), lost=()):
        hall = service.hall
        self.assertIs(type(hall), Hall)
        self.same([hall.scene, hall.worlds, hall.permits], [scene, worlds, permits])
        self.same([service.rule, service.said, service.lost], [rule, said, lost])
        self.same(is_mum(hall), True)

    def not_possible(self, service, event, reason):
        """The event is refused for this reason, and nothing but the counts is changed by it."""
        before = [service.log(), repr(service.hall.permits), service.hall.scene, service.said, service.counts()]
        with self.assertRaises(InvalidEvent) as caught:
            service.go(event)
        self.assertIs(caught.exception.event, event)
        self.same(caught.exception.reason, reason)
        before[-1] = tuple(count + 1 for count in before[-1])
        self.same([service.log(), repr(service.hall.permits), service.hall.scene, service.said, service.counts()], before)
        self.raises(InvalidEvent, [event, reason], service.tried, event)


class BeginningTest(ServiceCase):
    def wrong(self, word, at, *given, **named):
        self.raises(InvalidHall, [word, at], Service, *given, **named)

    def test_a_new_service(self):
        self.is_now(Service(SCENE, TRUE))
        permits = (('x', SUM, SUMS), ('y', 7, ((7,), (8,))))
        service = Service(permits=permits, rule='bold', world=TRUE, scene=SCENE)
        self.is_now(service, permits=permits, rule='bold')
        self.same([len(service), service.counts(), service.log(), str(service)],
                  [0, (0, 0), (('service', SCENE, TRUE, 'bold', permits),), '-'])
        self.same([Service.MOST, Service.PERMITS, Service.SECRETS, Service.ASKERS], [40, 4, 3, 3])
        self.same([service.MOST, service.PERMITS, service.SECRETS, service.ASKERS], [40, 4, 3, 3])
        for rule in ('alike', 'finest', 'bold'):
            self.same(Service(SCENE, TRUE, rule=rule).rule, rule)

    def test_the_worlds_are_all_possible_ones(self):
        low = ((*PAY[:2], (('<', SUM, 2),)), ('x',), (), 1)
        self.is_now(Service(low, W[1]), low, (W[0], W[1], W[3]))

    def test_the_errors_of_halls_first(self):
        for scene, word in (((), 'scene'), ((None, *SCENE[1:]), 'house'), ((PAY, ('y', 'x'), (), 1), 'askers'),
                            ((*SCENE[:2], (None,), 1), 'secrets'),
                            ((*SCENE[:3], True), 'few'), (((*PAY[:2], (NEVER,)), *SCENE[1:]), 'worlds')):
            self.wrong(word, -1, scene, None, rule=None, permits=None)
        self.wrong('secret', 1, (PAY, ('x',), (TOP, (ALWAYS, ('z',))), 1), None, rule='plain')
        self.wrong('permits', -1, SCENE, None, rule='plain', permits=[])
        self.wrong('permit', 1, SCENE, None, rule='plain', permits=(('x', SUM, SUMS), ('z', SUM, SUMS)))
        self.wrong('permit', 0, SCENE, TRUE, permits=(('x', SUM, ((3, 4),)),))

    def test_true(self):
        for world in (*ANY, 0, W, ((0,), (3,)), ((2,), (False,)), [(2,), (0,)], ((2,), [0]), ((2,),), Hall(SCENE)):
            self.wrong('true', -1, SCENE, world)
            self.wrong('true', -1, (*SCENE[:2], (NEVER_MUM,), 1), world, rule='plain')
        self.wrong('true', -1, ((*PAY[:2], (('<', SUM, 2),)), (), (), 1), W[8])

    def test_rule(self):
        for rule in (*ANY, 0, 1, 'plain', 'Bold', 'finest\n', ('bold',), ['bold'], Hall(SCENE)):
            self.wrong('rule', rule, SCENE, TRUE, rule=rule)
            self.wrong('rule', rule, (*SCENE[:2], (NEVER_MUM,), 1), TRUE, rule=rule)

    def test_tells(self):
        for k, secrets in enumerate(((NEVER_MUM, TOP), (TOP, NEVER_MUM), (TOP, ((NEVER), ()), NEVER_MUM, NEVER_MUM))):
            self.wrong('tells', k, (*SCENE[:2], secrets, 1), TRUE)
        self.wrong('tells', 0, SCENE, TRUE, permits=(('x', ANN, ALONE),))
        self.wrong('tells', 1, (*SCENE[:2], (TOP, (('=', BOB, 2), ())), 1), TRUE, permits=(('x', BOB, ALONE),))
        self.wrong('tells', 0, (*SCENE[:3], 2), TRUE, permits=(('x', SUM, SUMS), ('y', BOB, ALONE)))
        self.is_now(Service(SCENE, TRUE, permits=(('x', SUM, SUMS), ('y', BOB, ALONE))),
                    permits=(('x', SUM, SUMS), ('y', BOB, ALONE)))
        # Also what cannot be told in the true world counts.
        self.wrong('tells', 0, SCENE, W[0], permits=(('x', SUM, FIVE),))
        self.is_now(Service((*SCENE[:3], 0), W[0], permits=(('x', SUM, FIVE),)), (*SCENE[:3], 0), permits=(('x', SUM, FIVE),))

    def test_keyword_only(self):
        with self.assertRaises(TypeError):
            Service(SCENE, TRUE, 'bold')

    def test_a_service_does_not_change_from_outside(self):
        for name in ('hall', 'rule', 'said', 'lost'):
            with self.assertRaises(AttributeError):
                setattr(Service(SCENE, TRUE), name, ())


class EventsByKindTest(ServiceCase):
    def test_by_kind(self):
        for event, _ in EVENTS:
            self.same(is_event(event), True)
        for thing in NO_EVENTS:
            self.same(is_event(thing), False)
            self.not_possible(Service(SCENE, TRUE), thing, 'shape')

    def test_names_and_numbers(self):
        for name in WRONG_NAMES:
            for event in (('permit', name, SUM), ('alone', name, 0), ('rule', name), ('asker', name),
                          ('secret', TOP[0], (name,))):
                self.same(is_event(event), False)
                self.not_possible(Service(SCENE, TRUE), event, 'shape')
        for k in (*ANY, -1, -SIXTY, '0', [0]):
            for event in (('alone', 'x', k), ('drop', k), ('few', k)):
                self.same(is_event(event), False)


class EventsTest(ServiceCase):
    def test_examples(self):
        service = Service(SCENE, ((2,), (0,)))
        self.same([service.aloud(SUM), len(service.hall), service.aloud(ANN), service.hall.worlds],
                  [(2,), 3, (1, 2), (((1,), (1,)), ((2,), (0,)))])
        service = Service(SCENE, ((2,), (0,)))
        self.same([service.permit('x', SUM), service.permit('y', ('of', 'bob', 'pay')), service.alone('y', 0), len(service.hall)],
                  [((0,), (1,), (2,), (3, 4)), ((0,), (1,), (2,)), (0,), 9])

    def test_aloud(self):
        for rule, group, said in (('alike', (0, 1, 2, 3, 4), W), ('finest', (3, 4), (W[5], W[7], W[8])),
                                  ('bold', (0, 4), (W[0], W[8]))):
            service = Service(SCENE, W[8], rule=rule)
            self.same(service.aloud(SUM), group)
            self.is_now(service, worlds=said, said=((SUM, group),), rule=rule)
        permits = (('x', BOB, ((0, 1), (2,))),)
        service = Service(SCENE, TRUE, permits=permits)
        self.same([service.aloud(IS), service.aloud(7)], [(0,), (7,)])
        self.is_now(service, worlds=W[:3] + W[6:], permits=permits, said=((IS, (0,)), (7, (7,))))

    def test_permit(self):
        for rule, grouping in (('alike', ((0, 1, 2, 3, 4),)), ('finest', SUMS), ('bold', ((0, 4), (1,), (2,), (3,)))):
            service = Service(SCENE, TRUE, rule=rule)
            self.same(service.permit('x', SUM), grouping)
            self.is_now(service, permits=(('x', SUM, grouping),), rule=rule)
        service = Service(SCENE, TRUE)
        service.aloud(SUM)
        self.same([service.permit('y', SUM), service.permit('x', ANN)], [((2,),), ((0,), (1, 2))])
        self.is_now(service, worlds=W[2:7:2], permits=(('y', SUM, ((2,),)), ('x', ANN, ((0,), (1, 2)))), said=((SUM, (2,)),))

    def test_alone(self):
        permits = (('x', ANN, ((-5, 0), (1, 2, 9))), ('y', SUM, SUMS), ('x', BOB, ALONE))
        service = Service((*SCENE[:3], 1), W[7], permits=permits)
        self.same([service.alone('x', 0), service.alone('y', 0), service.alone('x', 1), service.alone('x', 0)],
                  [(1, 2, 9), (3, 4), (1,), (1, 2, 9)])
        self.is_now(service, permits=permits)
        self.same([service.heard('x'), service.heard('y')], [((0, (1, 2, 9)), (1, (1,)), (0, (1, 2, 9))), ((0, (3, 4)),)])

    def test_secret(self):
        service = Service(SCENE, TRUE)
        low = (('=', BOB, 0), ('x', 'y'))
        self.same([service.secret(low[0], low[1]), service.secret(NEVER, ())], [(), ()])
        self.is_now(service, (PAY, ('x', 'y'), (TOP, low, (NEVER, ())), 1))
        # A secret that has been said to all has knowers, but may not be known to the empty few either.
        told = Service(SCENE, TRUE)
        told.aloud(BOB)
        self.not_possible(told, ('secret', *low), 'tells')

    def test_drop_few_asker_rule(self):
        secrets = (TOP, (NEVER, ('x',)), (('=', BOB, 2), ()))
        service = service_of(*secrets)
        self.same([service.drop(1), service.drop(1)], [(), ()])
        self.is_now(service)
        self.same([service.set_few(0), service.new_asker('w'), service.set_rule('bold')], [(), (), ()])
        self.is_now(service, (PAY, ('w', 'x', 'y'), (TOP,), 0), rule='bold')
        self.same([service.permit('x', SUM), service.heard('w'), service.hall.view(('w',), TRUE)], [FIVE, (), W])
        self.same(service.set_rule('bold'), ())
        self.same(len(service), 7)

    def test_a_new_asker_is_no_knower(self):
        service = service_of((TOP[0], ('x', 'y')), permits=(('x', ANN, ALONE),))
        service.new_asker('a')
        self.is_now(service, (PAY, ('a', 'x', 'y'), ((TOP[0], ('x', 'y')),), 1), permits=(('x', ANN, ALONE),))
        self.same([service.permit('y', ANN), service.permit('a', ANN)], [ALONE, ((0,), (1, 2))])

    def test_outside(self):
        service = Service(SCENE, TRUE)
        self.same(service.outside(('<', SUM, 3)), (True,))
        worlds = W[:5] + W[6:7]
        self.is_now(service, worlds=worlds, said=((('<', SUM, 3), (True,)),))
        self.same(service.outside(('=', BOB, 2)), (False,))
        self.is_now(service, worlds=(W[0], W[1], W[3], W[4], W[6]), said=((('<', SUM, 3), (True,)), (('=', BOB, 2), (False,))))

    def test_secrets_are_lost(self):
        bob = (('=', BOB, 2), ('y',))
        service = service_of(TOP, bob, TOP)
        self.same(service.outside(TOP[0]), (True,))
        self.is_now(service, (PAY, ('x', 'y'), (bob,), 1), W[6:], said=((TOP[0], (True,)),), lost=(TOP, TOP))
        self.same(service.outside(('<', BOB, 2)), (True,))
        self.same(service.outside(('=', BOB, 0)), (True,))
        self.is_now(service, (PAY, ('x', 'y'), (bob,), 1), W[6:7],
                    said=((TOP[0], (True,)), (('<', BOB, 2), (True,)), (('=', BOB, 0), (True,))),
                    lost=(TOP, TOP))

    def test_secrets_lost_one_event_after_the_other(self):
        bob, sums = (('=', BOB, 2), ('y',)), (('<', 3, SUM), ('x', 'y'))
        service = service_of(sums, TOP, bob, world=W[8])
        service.outside(TOP[0])
        self.same([service.lost, service.hall.scene[2]], [(TOP,), (sums, bob)])
        service.outside(('=', SUM, 4))
        self.is_now(service, (PAY, ('x', 'y'), (), 1), W[8:], said=((TOP[0], (True,)), (('=', SUM, 4), (True,))),
                    lost=(TOP, sums, bob))

    def test_secrets_lost_to_a_few_alone(self):
        # With the sum and what is heard x alone knows it; all others do not.
        service = Service(SCENE, TRUE, permits=(('x', SUM, SUMS),))
        self.same(service.outside(('=', BOB, 2)), (False,))
        self.is_now(service, (PAY, ('x', 'y'), (), 1), tuple(w for w in W if w[1] != (2,)), (('x', SUM, SUMS),),
                    said=((('=', BOB, 2), (False,)),), lost=(TOP,))
        self.same([service.knows(('x',), TOP[0]), service.knows(('y',), TOP[0])], [None, None])
        with_few = Service((*SCENE[:3], 0), TRUE, permits=(('x', SUM, SUMS),))
        with_few.outside(('=', BOB, 2))
        self.same([with_few.lost, with_few.hall.scene[2]], [(), (TOP,)])

    def test_methods_are_events(self):
        calls = ((lambda s: s.aloud(SUM), ('aloud', SUM)), (lambda s: s(SUM), ('aloud', SUM)),
                 (lambda s: s.permit('x', SUM), ('permit', 'x', SUM)),
                 (lambda s: s.alone('x', 0), ('alone', 'x', 0)), (lambda s: s.secret(NEVER, ('x',)), ('secret', NEVER, ('x',))),
                 (lambda s: s.drop(0), ('drop', 0)), (lambda s: s.outside(TOP[0]), ('outside', TOP[0])),
                 (lambda s: s.set_rule('bold'), ('rule', 'bold')),
                 (lambda s: s.set_few(2), ('few', 2)), (lambda s: s.new_asker('z'), ('asker', 'z')))
        for call, event in calls:
            one, other = (Service(SCENE, TRUE, permits=(('x', 7, ((7,),)),)) for _ in range(2))
            self.same(call(one), other.go(event))
            self.same([one == other, one.log()[1:], one.counts(), other.counts()], [True, (event,), (1, 1), (1, 1)])
        named = Service(SCENE, TRUE)
        named.permit(asker='x', ask=BOB)
        named.alone(n=0, asker='x')
        named.secret(knowers=(), statement=NEVER)
        named.drop(k=1)
        named.outside(statement=ALWAYS)
        named.set_rule(word='bold')
        named.set_few(number=0)
        named.new_asker(name='z')
        named.aloud(ask=7)
        named.go(event=('drop', 0))
        self.same([event[0] for event in named.log()[1:]],
                  ['permit', 'alone', 'secret', 'drop', 'outside', 'rule', 'few', 'asker', 'aloud', 'drop'])


class ReasonsTest(ServiceCase):
    def method(self, call, event, reason):
        """A method raises the error with the event that it stands for."""
        self.raises(InvalidEvent, [event, reason], call, *event[1:])

    def test_ask(self):
        for thing, _ in UNFIT_ASKS:
            service = Service(SCENE, TRUE)
            by_form = is_event(('aloud', thing))
            self.not_possible(service, ('aloud', thing), 'ask' if by_form else 'shape')
            self.not_possible(service, ('permit', 'x', thing), 'ask' if by_form else 'shape')
            self.method(service.aloud, ('aloud', thing), 'ask' if by_form else 'shape')
            self.method(service.__call__, ('aloud', thing), 'ask' if by_form else 'shape')
            self.method(service.permit, ('permit', 'x', thing), 'ask' if by_form else 'shape')
        self.not_possible(Service(SCENE, TRUE), ('aloud', ('my', 'pay')), 'ask')

    def test_asker(self):
        for name in ('z', 'w', 'xx', 'ann'):
            service = Service(SCENE, TRUE, permits=(('x', SUM, SUMS),) * 4)
            self.not_possible(service, ('permit', name, SUM), 'asker')
            self.not_possible(service, ('permit', name, ('my', 'pay')), 'asker')
            self.not_possible(service, ('alone', name, 0), 'asker')
            self.not_possible(service, ('alone', name, SIXTY), 'asker')
            self.not_possible(service, ('secret', NEVER, (name,)), 'asker')
            self.not_possible(service, ('secret', ALWAYS, tuple(sorted(('x', name)))), 'asker')
            self.method(service.alone, ('alone', name, 0), 'asker')
        for name in ('x', 'y'):
            self.not_possible(Service(SCENE, TRUE), ('asker', name), 'asker')
            self.not_possible(service_of(askers=('x', 'y', 'z')), ('asker', name), 'asker')
            self.method(Service(SCENE, TRUE).new_asker, ('asker', name), 'asker')

    def test_many(self):
        permits = (('x', 7, ((7,),)),) * 4
        for more in (permits, permits * 3):
            self.not_possible(Service(SCENE, TRUE, permits=more), ('permit', 'y', SUM), 'many')
        self.not_possible(service_of(*[(NEVER, ())] * 3), ('secret', NEVER, ()), 'many')
        self.not_possible(service_of(*[(NEVER, ())] * 5), ('secret', ALWAYS, ()), 'many')
        self.not_possible(service_of(askers=('a', 'b', 'c')), ('asker', 'd'), 'many')
        self.not_possible(service_of(askers=('a', 'b', 'c', 'd')), ('asker', 'e'), 'many')
        service = Service(SCENE, TRUE)
        self.same([service.permit('x', 7) for _ in range(4)], [((7,),)] * 4)
        self.not_possible(service, ('permit', 'y', 7), 'many')
        self.same([service.secret(NEVER, ()) for _ in range(2)], [()] * 2)
        self.not_possible(service, ('secret', NEVER, ()), 'many')
        service.drop(0)
        self.same([service.secret(NEVER, ()), service.new_asker('z')], [(), ()])
        self.not_possible(service, ('asker', 'w'), 'many')

    def test_number(self):
        service = Service(SCENE, TRUE, permits=(('x', SUM, SUMS), ('y', 7, ((7,),)), ('x', 7, ((7,),))))
        for asker, n in (('x', 2), ('x', SIXTY), ('y', 1), ('y', 2)):
            self.not_possible(service, ('alone', asker, n), 'number')
        self.not_possible(Service(SCENE, TRUE), ('alone', 'x', 0), 'number')
        for k in (1, 2, SIXTY):
            self.not_possible(service, ('drop', k), 'number')
            self.method(service.drop, ('drop', k), 'number')
        self.not_possible(service_of(), ('drop', 0), 'number')

    def test_statement(self):
        for thing, _ in UNFIT_STATEMENTS:
            service = service_of(*[(NEVER, ())] * 3)
            reason = 'statement' if is_event(('outside', thing)) else 'shape'
            self.not_possible(service, ('outside', thing), reason)
            self.not_possible(service, ('secret', thing, ('z',)), reason)
            self.method(service.secret, ('secret', thing, ('x',)), reason)
            self.method(service.outside, ('outside', thing), reason)
        self.not_possible(Service(SCENE, TRUE), ('secret', ('=', ('my', 'pay'), 0), ()), 'statement')

    def test_tells(self):
        self.not_possible(Service(SCENE, TRUE), ('secret', ALWAYS, ()), 'tells')
        self.not_possible(Service(SCENE, TRUE), ('secret', ALWAYS, ('x', 'y')), 'tells')
        told = Service(SCENE, TRUE, permits=(('x', SUM, SUMS), ('y', BOB, ALONE)))
        self.not_possible(told, ('secret', ('=', SUM, 2), ()), 'tells')
        self.same(told.secret(('=', SUM, 2), ('x',)), ())
        self.not_possible(told, ('few', 2), 'tells')
        self.not_possible(told, ('few', SIXTY), 'tells')
        self.method(told.set_few, ('few', 2), 'tells')
        self.same([told.set_few(0), told.set_few(1)], [(), ()])

    def test_rule(self):
        for word in ('plain', 'a', 'alik', 'alikes', 'rule'):
            self.not_possible(Service(SCENE, TRUE), ('rule', word), 'rule')
            self.method(Service(SCENE, TRUE).set_rule, ('rule', word), 'rule')

    def test_full(self):
        service = Service(SCENE, TRUE)
        for _ in range(40):
            service.aloud(7)
        for event in (('aloud', 7), ('aloud', ('my', 'pay')), ('permit', 'z', SUM), ('drop', 9), ('rule', 'plain'), ('few', 0),
                      ('secret', ALWAYS, ())):
            self.not_possible(service, event, 'full')
        for event in (('few', True), None, ('aloud', 7, 7)):
            self.not_possible(service, event, 'shape')
        self.same([len(service), service.undo(), service.set_few(0), len(service)], [40, ('aloud', 7), (), 40])
        self.not_possible(service, ('few', 0), 'full')

    def test_several_at_once(self):
        full = service_of(*[(NEVER, ())] * 3, askers=('x', 'y', 'z'), permits=(('x', 7, ((7,),)),) * 4)
        wrong = ('=', ('my', 'pay'), 0)
        for event, reason in ((('permit', 'w', ('my', 'pay')), 'asker'), (('permit', 'x', ('my', 'pay')), 'ask'),
                              (('permit', 'x', 7), 'many'),
                              (('alone', 'w', 9), 'asker'), (('alone', 'y', 9), 'number'),
                              (('secret', wrong, ('w',)), 'statement'),
                              (('secret', ALWAYS, ('w',)), 'asker'), (('secret', ALWAYS, ('x',)), 'many'),
                              (('asker', 'x'), 'asker'),
                              (('asker', 'w'), 'many'), (('permit', 'w', True), 'shape'),
                              (('secret', wrong, ('x', 'w')), 'shape')):
            self.not_possible(full, event, reason)


class QuestionsTest(ServiceCase):
    def test_heard(self):
        service = Service(SCENE, TRUE, permits=(('x', SUM, SUMS), ('y', BOB, ALONE), ('x', 7, ((7,),))))
        self.same([service.heard('x'), service.heard('y')], [(), ()])
        service.do_all(('alone', 'x', 1), ('aloud', BOB), ('alone', 'y', 0), ('alone', 'x', 0))
        self.same([service.heard(asker='x'), service.heard('y')], [((1, (7,)), (0, (2,))), ((0, (0,)),)])
        service.undo()
        self.same(service.heard('x'), ((1, (7,)),))
        for thing in NO_ASKERS:
            self.raises(UnknownAsker, [thing], service.heard, thing)

    def test_in_and_len(self):
        service = Service(SCENE, TRUE)
        self.same([[world in service for world in W], len(service)], [[True] * 9, 0])
        service.aloud(SUM)
        self.same([[world in service for world in W], len(service)], [[world in (W[2], W[4], W[6]) for world in W], 1])
        for thing in (*ANY, 0, W, ((2,), (False,)), [(2,), (0,)], ((2,), [0]), SCENE, service):
            self.same(thing in service, False)

    def test_equal(self):
        starts = [dict(world=TRUE), dict(world=W[0]), dict(world=TRUE, rule='bold'),
                  dict(world=TRUE, permits=(('x', SUM, SUMS),)),
                  dict(world=TRUE, few=2), dict(world=TRUE, askers=('x',))]
        events = [(), (('aloud', 7),), (('aloud', 7), ('few', 1)), (('few', 1), ('aloud', 7)), (('few', 0),), (('aloud', 8),)]
        rows = [(start, some) for start in starts for some in events]

        def made(row):
            service = service_of(TOP, **row[0])
            service.do_all(*row[1])
            return service

        for one in rows[:12]:
            for other in rows:
                self.same([made(one) == made(other), made(one) != made(other)], [one == other, one != other])
        service = made(rows[0])
        for other in (*ANY, 0, service.log(), service.hall, str(service), SCENE):
            self.same([service == other, other == service], [False, False])
        again = made(rows[0])
        again.do_all(('few', 0), ('drop', 0))
        again.undo()
        again.undo()
        self.same([service == again, service.counts() == again.counts()], [True, False])

    def test_table(self):
        service = Service(SCENE, ((2,), (0,)))
        service.do_all(('permit', 'x', SUM), ('alone', 'x', 0), ('alone', 'x', 0))
        self.same(service.table(), ['x          1   2   3', 'y          0   0   9'])
        service = service_of(askers=('abcdefgh', 'b', 'cc'), permits=(('cc', BOB, ALONE),) * 12)
        service.do_all(*[('alone', 'cc', k) for k in range(11)])
        self.same(service.table(), ['abcdefgh   0   0   9', 'b          0   0   9', 'cc        12  11   3'])
        # The view of one asker counts, also if few is 0.
        service.set_few(0)
        self.same(service.table()[2], 'cc        12  11   3')
        self.same(service_of(askers=()).table(), [])
        rows = service.table()
        self.assertIs(type(rows), list)
        rows.clear()
        self.same(len(service.table()), 3)


class AsTheDocumentSaysTest(ServiceCase):
    def test_rows_of_events(self):
        maker = EventMaker(211)
        reasons = set()
        for _ in range(50):
            scene, worlds, world, rule, permits = maker.beginning()
            slow = SlowService(scene, worlds, world, rule, permits)
            service = Service(scene, world, rule=rule, permits=permits)
            for _ in range(46):
                event = maker.event(slow.hall)
                reason = slow.reason(event)
                reasons.add((event[0], reason))
                if reason is None:
                    said = slow.apply(event)
                    self.same([service.tried(event), service.go(event)], [(said,), said])
                else:
                    self.not_possible(service, event, reason)
                self.is_now(service, *slow.hall, slow.rule, tuple(slow.said), tuple(slow.lost))
                self.same(service.table(), slow.table())
            self.same(reference.mum(slow.hall), True)
            for asker in slow.hall[0][1]:
                self.same(service.heard(asker), tuple((n, group) for name, n, group in slow.heard if name == asker))
        self.assertGreaterEqual(len(reasons), 25, reasons)
