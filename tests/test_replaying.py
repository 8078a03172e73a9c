"""Logs: points 72 to 75, as far as services are made from them."""

from mumhouse.errors import InvalidEvent, InvalidHall
from mumhouse.eventreadings import read_event, read_log
from mumhouse.eventtexts import event_line, log_lines
from mumhouse.replaying import is_log, replayed
from mumhouse.services import Service
from tests import reference
from tests.samples import ALWAYS, ANN, ANY, BOB, NEVER, PAY, SCENE, SIXTY, SUM, SUMS, TOP, W, Case, with_item
from tests.slow_service import EventMaker
from tests.test_eventtexts import EVENTS
from tests.test_operations import ROW, state
from tests.test_services import NO_EVENTS, TRUE

START = ('service', SCENE, ((2,), (0,)), 'bold', ())
# Each kind of event.
ALL = (('permit', 'x', SUM), ('alone', 'x', 0), ('aloud', BOB), ('secret', NEVER, ('x', 'y')), ('few', 0), ('rule', 'alike'),
       ('asker', 'b'),
       ('drop', 1), ('outside', TOP[0]))
# First elements of which no service can be made, and the error.
NO_STARTS = (
    (with_item(START, 1, None), ['scene', -1]),
    (with_item(START, 1, ((('ann',), (), ()), *SCENE[1:])), ['house', -1]),
    (with_item(START, 1, (*SCENE[:3], True)), ['few', -1]),
    (with_item(START, 1, ((*PAY[:2], (NEVER,)), *SCENE[1:])), ['worlds', -1]),
    (with_item(START, 1, (PAY, ('x',), ((ALWAYS, ()),), 1)), ['tells', 0]),
    (with_item(START, 1, (PAY, ('x',), (TOP, (ALWAYS, ('z',))), 1)), ['secret', 1]),
    (with_item(START, 2, ((3,), (0,))), ['true', -1]),
    (with_item(START, 2, ((2,), (False,))), ['true', -1]),
    (with_item(START, 2, None), ['true', -1]),
    (with_item(START, 3, 'plain'), ['rule', 'plain']),
    (with_item(START, 3, None), ['rule', None]),
    (with_item(START, 4, None), ['permits', -1]),
    (with_item(START, 4, [('x', SUM, SUMS)]), ['permits', -1]),
    (with_item(START, 4, (('x', SUM, SUMS), ('z', SUM, SUMS))), ['permit', 1]),
    (with_item(START, 4, (('x', SUM, ((0,), (1,), (2,), (3,), (4,))),)), ['tells', 0]),
)


class LogTest(Case):
    def test_example(self):
        self.same([is_log((START, ('drop', 7))), str(replayed((START, ('aloud', ANN))))], [True, 'aloud of ann pay'])

    def test_log_and_str(self):
        permits = (('x', 7, ((7,),)),)
        service = Service(SCENE, TRUE, rule='alike', permits=permits)
        start = ('service', SCENE, TRUE, 'alike', permits)
        self.same([service.log(), str(service)], [(start,), '-'])
        for k in range(len(ALL)):
            service.go(ALL[k])
            self.same(service.log(), (start, *ALL[:k + 1]))
            self.same(str(service), ' / '.join(event_line(event) for event in ALL[:k + 1]))
        self.same(str(service), 'permit x sum my pay = 0 0 / alone x 0 / aloud of bob pay / secret x,y < 0 0 / few 0'
                                ' / rule alike / asker b / drop 1 / outside = of ann pay 2')
        service.undo()
        self.same(service.log(), (start, *ALL[:-1]))

    def test_replayed(self):
        for events in ((), ALL, ROW, ROW[:3]):
            service = Service(SCENE, TRUE, rule='bold')
            service.do_all(*events)
            again = replayed(log=service.log())
            self.same([again == service, state(again) == state(service), again.counts()], [True, True, (0, 0)])
            again.go(('few', 0))
            self.same([again == service, len(service)], [False, len(events)])

    def test_made_ones(self):
        maker = EventMaker(231)
        for _ in range(25):
            scene, _, world, rule, permits = maker.beginning()
            service = Service(scene, world, rule=rule, permits=permits)
            for _ in range(12):
                try:
                    service.go(maker.event(reference.plain(service.hall)))
                except InvalidEvent:
                    pass
            log = service.log()
            self.same(is_log(log), True)
            # Lines that are written, read and replayed give an equal service.
            lines = log_lines(log)
            self.same(read_log(lines), log)
            again = replayed(read_log(lines))
            self.same([again == service, state(again) == state(service)], [True, True])
            for event in log[1:]:
                self.same(read_event(event_line(event)), event)

    def test_first_error(self):
        for start, fields in NO_STARTS:
            self.raises(InvalidHall, fields, replayed, (start,))
            self.raises(InvalidHall, fields, replayed, (start, None, ('drop', 7)))
        for events, error in (((('drop', 7),), (('drop', 7), 'number')), ((*ALL, ('drop', 0), None), (('drop', 0), 'number')),
                              ((*ALL, None, ('drop', 7)), (None, 'shape')),
                              ((('asker', 'x'), ('rule', 'plain')), (('asker', 'x'), 'asker')),
                              ((('few', 1),) * 41, (('few', 1), 'full')),
                              (((('few', 1),) * 40 + (('few', True),)), (('few', True), 'shape'))):
            self.raises(InvalidEvent, error, replayed, (START, *events))
        self.same(len(replayed((START, *[('few', 1)] * 40))), 40)

    def test_is_log(self):
        self.same([is_log((START,)), is_log(thing=(START, *ALL)), is_log((START, *[event for event, _ in EVENTS]))],
                  [True, True, True])
        self.same(is_log((START, *[('drop', SIXTY)] * 50)), True)
        for thing in (*ANY, 0, START, [START], ((),), ('service',), (list(START),), (START[:4],), ((*START, ()),),
                      (with_item(START, 0, 'desk'),),
                      (with_item(START, 0, None),), (with_item(START, 0, ('service',)),), ('abcde',), (None, START),
                      (('drop', 0), START), (START, START),
                      Service(SCENE, TRUE), (Service(SCENE, TRUE),)):
            self.same(is_log(thing), False)
        for start, _ in NO_STARTS:
            self.same([is_log((start,)), is_log((start, *ALL))], [False, False])
        for thing in NO_EVENTS:
            self.same([is_log((START, thing)), is_log((START, *ALL, thing)), is_log((START, thing, *ALL))], [False, False, False])

    def test_log_lines(self):
        permits = (('x', SUM, SUMS), ('y', 7, ((-1, 7), (8,))))
        service = Service((PAY, ('x', 'y'), (TOP, (NEVER, ('x', 'y'))), 1), W[8], rule='alike', permits=permits)
        service.do_all(('few', 0), ('secret', NEVER, ()))
        self.same(log_lines(service.log()),
                  ['service alike 1 x,y 2 2 2', 'people ann,bob', 'field pay 0 2', 'world 2 2', 'secret - = of ann pay 2',
                                             'secret x,y < 0 0', 'permit x 0;1;2;3,4 sum my pay = 0 0', 'permit y -1,7;8 7',
                   'few 0', 'secret - < 0 0'])
        self.same(replayed(read_log(log_lines(service.log()))) == service, True)
