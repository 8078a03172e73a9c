"""Events and logs as lines: points 61, 72 (the first element of a log), 73 and 74."""

from mumhouse.eventreadings import read_event, read_log
from mumhouse.eventtexts import event_line, log_lines
from tests.samples import ANN, BOB, PAY, SCENE, SIXTY, SUM, SUMS, TOP, Case
from tests.test_expressions import ALWAYS, C, N, Maker

START = ('service', SCENE, ((2,), (0,)), 'bold', ())
EVENTS = (
    (('aloud', SUM), 'aloud sum my pay = 0 0'),
    (('aloud', 0), 'aloud 0'),
    (('aloud', ('my', 'zed')), 'aloud my zed'),
    (('aloud', ('-', -1, SIXTY)), f'aloud - -1 {SIXTY}'),
    (('permit', 'x', ANN), 'permit x of ann pay'),
    (('permit', 'permit', -SIXTY), f'permit permit -{SIXTY}'),
    (('alone', 'y', 0), 'alone y 0'),
    (('alone', 'alone', SIXTY), f'alone alone {SIXTY}'),
    (('secret', TOP[0], ()), 'secret - = of ann pay 2'),
    (('secret', TOP[0], ('x',)), 'secret x = of ann pay 2'),
    (('secret', ALWAYS, ('a', 'my', 'secret')), 'secret a,my,secret = 0 0'),
    (('drop', 0), 'drop 0'),
    (('drop', SIXTY), f'drop {SIXTY}'),
    (('outside', ('not', ALWAYS)), 'outside not = 0 0'),
    (('rule', 'bold'), 'rule bold'),
    (('rule', 'any'), 'rule any'),
    (('few', 0), 'few 0'),
    (('few', 12), 'few 12'),
    (('asker', 'z'), 'asker z'),
    (('asker', 'asker'), 'asker asker'),
)
# Two people, two fields, two rules; secrets with and without knowers; permits; askers.
FULL_HOUSE = (('ann', 'bob'), (('age', -3, 0), ('pay', 0, 2)), (('<', SUM, 4), ('=', ('my', 'age'), -1)))
FULL = ('service', (FULL_HOUSE, ('x', 'y', 'z'), (TOP, (ALWAYS, ('x', 'z')), (('not', TOP[0]), ('y',))), 2),
        ((-3, 2), (0, 1)), 'alike', (('x', SUM, SUMS), ('y', ('-', 0, BOB), ((-2, 0), (-1,))), ('x', 7, ((7,),))))
FULL_LINES = [
    'service alike 2 x,y,z 5 3 3',
    'people ann,bob',
    'field age -3 0',
    'field pay 0 2',
    'rule < sum my pay = 0 0 4',
    'rule = my age -1',
    'world -3,2 0,1',
    'secret - = of ann pay 2',
    'secret x,z = 0 0',
    'secret y not = of ann pay 2',
    'permit x 0;1;2;3,4 sum my pay = 0 0',
    'permit y -2,0;-1 - 0 of bob pay',
    'permit x 7 7',
]
BARE = ('service', ((('a',), (('f', 0, 0),), ()), (), (), 0), ((0,),), 'finest', ())
BARE_LINES = ['service finest 0 - 2 0 0', 'people a', 'field f 0 0', 'world 0']


class EventLineTest(Case):
    def test_example(self):
        self.same([event_line(('secret', TOP[0], ('x',))), log_lines((START,))],
                  ['secret x = of ann pay 2', ['service bold 1 x,y 2 1 0', 'people ann,bob', 'field pay 0 2', 'world 2 0',
                                               'secret - = of ann pay 2']])

    def test_each_kind(self):
        for event, line in EVENTS:
            self.same(event_line(event), line)
            self.same(read_event(line), event)
        self.same(event_line(event=('few', 1)), 'few 1')

    def test_whatever_the_numbers(self):
        large = 10 ** 200
        self.same([event_line(('drop', large)), event_line(('aloud', -large)), event_line(('alone', 'x', large))],
                  [f'drop {large}', f'aloud -{large}', f'alone x {large}'])

    def test_made_ones(self):
        maker = Maker(12)
        for _ in range(100):
            ask, statement = maker.expression(N, 3), maker.expression(C, 3)
            for event in (('aloud', ask), ('permit', 'x', ask), ('secret', statement, ('x', 'y')), ('outside', statement)):
                self.same(read_event(event_line(event)), event)


class LogLinesTest(Case):
    def test_logs(self):
        self.same(log_lines((FULL,)), FULL_LINES)
        self.same(log_lines((BARE,)), BARE_LINES)
        events = tuple(event for event, _ in EVENTS)
        lines = [line for _, line in EVENTS]
        self.same(log_lines((FULL, *events)), [*FULL_LINES, *lines])
        self.same(log_lines(log=(BARE, *events)), [*BARE_LINES, *lines])

    def test_what_is_written_is_read(self):
        events = tuple(event for event, _ in EVENTS)
        for first in (FULL, BARE, START):
            for log in ((first,), (first, *events), (first, events[3], events[3])):
                self.same(read_log(log_lines(log)), log)
                self.same(log_lines(read_log(log_lines(log))), log_lines(log))

    def test_new_lists(self):
        log = (FULL, ('few', 1))
        found = log_lines(log)
        self.assertIs(type(found), list)
        found.append('x')
        found[0] = ''
        self.same(log_lines(log), [*FULL_LINES, 'few 1'])
        self.assertIsNot(log_lines(log), log_lines(log))
