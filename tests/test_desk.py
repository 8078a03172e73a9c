"""Desks: point 76."""

from mumhouse.desk import Desk
from mumhouse.errors import InvalidEvent, InvalidHall, InvalidRow, NothingToUndo, UnfitExpression, UnknownAsker
from mumhouse.eventtexts import event_line, grouping_word, log_lines
from mumhouse.housetexts import expression_text
from mumhouse.services import Service
from tests import reference
from tests.samples import SCENE, SIXTY, SUM, Case
from tests.slow_service import EventMaker
from tests.test_eventtexts import BARE_LINES, EVENTS

START = 'service finest 1 x,y 2 1 0\npeople ann,bob\nfield pay 0 2\nworld 2 0\nsecret - = of ann pay 2'
SUMS = 'sum my pay = 0 0'
TOLD = ('service bold 2 x,y,z 2 1 2\npeople ann,bob\nfield pay 0 2\nworld 2 2\nsecret x = of ann pay 2\n'
        'permit x 0;1;2;3,4 ' + SUMS + '\npermit y 7 7')
REPORTS = ('undo', 'count', 'log', 'rule', 'few', 'worlds', 'askers', 'said', 'table', 'secrets', 'lost', 'permits')
QUESTIONS = ('heard x', 'next ' + SUMS, 'may x ' + SUMS, 'needed ' + SUMS, 'knows - = 0 0')
# Rows of no valid form.
NO_ROWS = ('', ' ', '\n', 'Undo', 'undo ', ' undo', 'undo\n', 'undo 1', 'count 0', 'log x', 'worlds x', 'askers x', 'said x',
           'table x', 'lost x',
           'secrets x', 'permits x', 'rules', 'rule  bold', 'rule Bold', 'rule bold bold', 'rule\n', 'few -1', 'few 01',
           'few 1 1', 'few x', 'few ',
           'heard', 'heard X', 'heard x y', 'heard x,y', 'heard -', 'heard x\n', 'heard ', 'next', 'next = 0 0', 'next my',
           'next 1 1', 'next x 1',
           'next + 1', 'may x', 'may 1', 'may X 1', 'may x = 0 0', 'may x 1 1', 'may - 1', 'needed', 'needed = 0 0',
           'needed 1 2', 'needed x 1', 'knows',
           'knows x', 'knows = 0 0', 'knows x 1', 'knows y,x = 0 0', 'knows x,x = 0 0', 'knows x = 0 0 0', 'knows x,- = 0 0',
           'knows  = 0 0',
           'knows x not 0', 'aloud', 'aloud = 0 0', 'aloud 1 1', 'permit x', 'permit X 1', 'alone x', 'alone x -1',
           'secret = 0 0', 'secret x 0', 'drop',
           'drop x', 'outside 0', 'asker', 'asker x y', 'asker X', 'go few 1', 'tried few 1', 'do_all few 1', 'in', 'len',
           'counts', 'hall', 'true', 'world',
           'world 2 0', 'people ann,bob', 'service', 'aloud 1\naloud 2', 'few 1\n', '\nfew 1', 'count\ncount',
           'next ' + '+ ' * 31 + '1', 'drop ' + str(SIXTY + 1),
           START + '\n', '\n' + START, START + '\nfew 1', START + '\ncount', START.replace('\n', ' '),
           START.replace('finest', 'Finest'), START.replace('2 1 0', '2 1 1'),
           START.replace('2 1 0', '3 1 0'), START.replace('2 1 0', '2 0 0'), START.replace('world 2 0', 'world'), START[:-2],
           START + ' ',
           START.replace('0 2', '00 2'), START.replace('x,y', 'y,x'), 'count / count', '-')


class DeskCase(Case):
    def desk(self, *rows):
        desk = Desk()
        for row in rows:
            desk.say(row)
        return desk

    def says(self, desk, *pairs):
        for row, answer in pairs:
            self.same([row, desk.say(row)], [row, answer])


class BeginningTest(DeskCase):
    def test_example(self):
        desk = Desk()
        answer = desk.say('service finest 1 x,y 2 1 0\npeople ann,bob\nfield pay 0 2\nworld 2 0\nsecret - = of ann pay 2')
        self.same([answer, desk.say('aloud of ann pay'), desk.say('worlds'), desk.say('knows - = of ann pay 2'),
                   desk.say('next of ann pay')],
                  ['ok', '1,2', '6', 'open', '1,2'])

    def test_before_the_first_service(self):
        desk = Desk()
        rows = (*REPORTS, *QUESTIONS, *[line for _, line in EVENTS], *NO_ROWS, 'heard z', 'next my pay', 'drop 7')
        for k, row in enumerate(rows):
            self.raises(InvalidRow, [row], desk.say, row)
            self.same(desk.counts(), (k + 1, k + 1))
        self.says(desk, (START, 'ok'), ('count', '0'))

    def test_no_service_can_be_made(self):
        for keeps in (False, True):
            desk = self.desk(START, 'few 0') if keeps else Desk()
            for row, fields in ((START.replace('ann pay 2', 'ann pay 3').replace('= of', '< of'), ['tells', 0]),
                                (START.replace('world 2 0', 'world 3 0'), ['true', -1]),
                                (START.replace('world 2 0', 'world 2'), ['true', -1]),
                                (START.replace('finest', 'plain'), ['rule', 'plain']),
                                (START.replace('field pay 0 2', 'field pay 2 0'), ['house', -1]),
                                (START.replace('secret -', 'secret z'), ['secret', 0]),
                                (START.replace('of ann pay 2', 'of zed pay 2'), ['secret', 0]),
                                (TOLD.replace('permit y 7 7', 'permit w 7 7'), ['permit', 1]),
                                (TOLD.replace('0;1;2;3,4', '0;1;2,3'), ['permit', 0])):
                self.raises(InvalidHall, fields, desk.say, row)
                if keeps:
                    self.says(desk, ('log', 'few 0'), ('rule', 'finest'))
                else:
                    self.raises(InvalidRow, ['count'], desk.say, 'count')

    def test_another_service(self):
        desk = self.desk(START, 'aloud ' + SUMS)
        self.says(desk, (TOLD, 'ok'), ('count', '0'), ('worlds', '9'), ('permits', 'x 0;1;2;3,4 ' + SUMS + ' / y 7 7'),
                  ('rule', 'bold'), ('few', '2'),
                  ('\n'.join(BARE_LINES), 'ok'), ('worlds', '1'), ('askers', '-'), ('table', '-'))

    def test_counts(self):
        desk = Desk()
        self.same(desk.counts(), (0, 0))
        for k, row in enumerate(('count', START, 'few 9', 'count', 'drop 9', 'x', START.replace('finest', 'plain'), 'undo',
                                 'undo', 'heard z')):
            try:
                desk.say(row=row)
            except ValueError:
                pass
            self.same(desk.counts(), (k + 1, k + 1))


class RowsTest(DeskCase):
    def test_events(self):
        self.says(self.desk(START), ('aloud ' + SUMS, '2'), ('aloud of ann pay', '1,2'), ('permit x ' + SUMS, '2'),
                  ('permit y of ann pay', '1,2'),
                  ('alone y 0', '1,2'), ('alone x 0', '2'), ('secret x,y < 0 0', 'ok'), ('secret - < 0 0', 'ok'),
                  ('drop 1', 'ok'), ('outside = of bob pay 2', 'no'),
                  ('outside = of bob pay 0', 'yes'), ('rule alike', 'ok'), ('few 0', 'ok'), ('asker a', 'ok'), ('count', '14'))
        self.says(self.desk(START), ('permit x ' + SUMS, '0;1;2;3,4'), ('permit y - 0 of bob pay', '-2;-1;0'),
                  ('alone y 0', '0'), ('alone x 0', '2'))
        self.says(self.desk(START.replace('world 2 0', 'world 2 2')), ('permit x ' + SUMS, '0;1;2;3,4'), ('alone x 0', '3,4'),
                  ('aloud 1', '1'), ('aloud 0', '0'))

    def test_reports_at_first(self):
        self.says(self.desk(START), ('count', '0'), ('log', '-'), ('rule', 'finest'), ('few', '1'), ('worlds', '9'),
                  ('askers', 'x,y'), ('said', '-'),
                  ('table', 'x          0   0   9 / y          0   0   9'), ('secrets', '- = of ann pay 2'), ('lost', '-'),
                  ('permits', '-'),
                  ('heard x', '-'))
        self.says(self.desk('\n'.join(BARE_LINES)), ('askers', '-'), ('table', '-'), ('secrets', '-'), ('knows - = 0 0', 'yes'),
                  ('needed 0', '-'))

    def test_reports(self):
        desk = self.desk(TOLD, 'alone x 0', 'aloud of bob pay', 'outside = of bob pay 0', 'secret y,z < 0 0', 'alone y 0',
                         'alone x 0', 'rule finest', 'few 1')
        self.says(desk, ('count', '8'), ('rule', 'finest'), ('few', '1'), ('worlds', '3'), ('askers', 'x,y,z'), ('said', '2 no'),
                  ('log', 'alone x 0 / aloud of bob pay / outside = of bob pay 0 / secret y,z < 0 0 / alone y 0 / alone x 0'
                          ' / rule finest / few 1'),
                  ('table', 'x          1   2   2 / y          1   1   3 / z          0   0   3'),
                  ('secrets', 'x = of ann pay 2 / y,z < 0 0'), ('lost', '-'), ('permits', 'x 0;1;2;3,4 ' + SUMS + ' / y 7 7'),
                  ('heard x', '0:3,4 0:3,4'), ('heard y', '0:7'), ('heard z', '-'),
                  ('outside = of ann pay 2', 'yes'), ('secrets', 'y,z < 0 0'), ('lost', 'x = of ann pay 2'), ('said', '2 no yes'))

    def test_several_are_lost(self):
        desk = self.desk(START, 'secret x,y = of bob pay 0', 'secret y < 0 0')
        self.says(desk, ('outside = + of ann pay * 3 of bob pay 2', 'yes'), ('lost', '- = of ann pay 2 / x,y = of bob pay 0'),
                  ('secrets', 'y < 0 0'))

    def test_said_of_zero_and_one(self):
        # The values 0 and 1 are no truths.
        desk = self.desk(START, 'aloud 0', 'aloud 1', 'outside = 0 0', 'outside = 0 1', 'aloud if = of ann pay 1 1 0',
                         'permit x 1', 'alone x 0')
        self.says(desk, ('said', '0 1 yes no 0'), ('heard x', '0:1'))

    def test_undo(self):
        desk = self.desk(START)
        for _, line in EVENTS:
            try:
                desk.say(line)
            except InvalidEvent:
                continue
            self.says(desk, ('undo', line), ('count', '0'))
        self.raises(NothingToUndo, [0], desk.say, 'undo')

    def test_questions(self):
        desk = self.desk(START)
        self.says(desk, ('next ' + SUMS, '0;1;2;3,4'), ('may y ' + SUMS, '0;1;2;3,4'), ('needed ' + SUMS, '0'),
                  ('needed of bob pay', '-'),
                  ('next - of bob pay 1', '-1;0;1'), ('may x of ann pay', '0;1,2'), ('knows - = of ann pay 2', 'open'),
                  ('knows x,y = of ann pay 2', 'open'),
                  ('knows x not = of ann pay 3', 'yes'), ('knows y = of ann pay 3', 'no'), ('count', '0'))
        desk = self.desk(TOLD, 'secret x < 3 ' + SUMS, 'secret x = of bob pay 2')
        self.says(desk, ('needed ' + SUMS, '0 1 2'), ('needed of bob pay', '2'), ('needed of ann pay', '0'))

    def test_as_a_service(self):
        maker = EventMaker(241)
        for _ in range(25):
            scene, _, world, rule, permits = maker.beginning()
            service = Service(scene, world, rule=rule, permits=permits)
            desk = self.desk('\n'.join(log_lines(service.log())))
            for _ in range(10):
                event = maker.event(reference.plain(service.hall))
                try:
                    service.go(event)
                except InvalidEvent as error:
                    self.raises(InvalidEvent, [event, error.reason], desk.say, event_line(event))
                else:
                    desk.say(event_line(event))
                ask = maker.maker.ask()
                if len(reference.values(reference.plain(service.hall), ask)) < 6:
                    text = expression_text(ask)
                    self.says(desk, ('next ' + text, grouping_word(service.next_grouping(ask))),
                              ('needed ' + text, ' '.join(map(str, service.drops_needed(ask))) or '-'))
                    for asker in service.hall.scene[1]:
                        self.says(desk, (f'may {asker} {text}', grouping_word(service.next_permit(asker, ask))))
                self.says(desk, ('log', str(service)), ('count', str(len(service))), ('worlds', str(len(service.hall))),
                          ('rule', service.rule),
                          ('table', ' / '.join(service.table()) or '-'), ('askers', ','.join(service.hall.scene[1]) or '-'))


class ErrorsTest(DeskCase):
    def test_rows_of_no_valid_form(self):
        desk = self.desk(TOLD, 'few 0')
        for row in NO_ROWS:
            self.raises(InvalidRow, [row], desk.say, row)
        self.says(desk, ('log', 'few 0'), ('count', '1'))

    def test_the_errors_of_the_service(self):
        desk = self.desk(START, 'few 0')
        before = [desk.say(row) for row in REPORTS[1:]]
        for row, error in (('aloud my pay', [('aloud', ('my', 'pay')), 'ask']), ('permit z 1', [('permit', 'z', 1), 'asker']),
                           ('alone x 0', [('alone', 'x', 0), 'number']),
                           ('secret - = 0 0', [('secret', ('=', 0, 0), ()), 'tells']),
                           ('drop 7', [('drop', 7), 'number']),
                           ('outside = of zed pay 0', [('outside', ('=', ('of', 'zed', 'pay'), 0)), 'statement']),
                           ('rule plain', [('rule', 'plain'), 'rule']), ('asker x', [('asker', 'x'), 'asker'])):
            self.raises(InvalidEvent, error, desk.say, row)
        for row, error, fields in (('heard z', UnknownAsker, ['z']), ('may z my pay', UnknownAsker, ['z']),
                                   ('may x + 1 my pay', UnfitExpression, [(2,)]),
                                   ('next my pay', UnfitExpression, [()]), ('needed of ann age', UnfitExpression, [()]),
                                   ('knows x,z = my pay 0', UnknownAsker, ['z']),
                                   ('knows x = my pay 0', UnfitExpression, [(1,)])):
            self.raises(error, fields, desk.say, row)
        self.same([desk.say(row) for row in REPORTS[1:]], before)

    def test_full(self):
        desk = self.desk(START, *['few 1'] * 40)
        self.raises(InvalidEvent, [('few', 1), 'full'], desk.say, 'few 1')
        self.raises(InvalidRow, ['few -1'], desk.say, 'few -1')
        self.says(desk, ('count', '40'), ('next of ann pay', '0;1,2'), ('undo', 'few 1'), ('count', '39'))

    def test_lines_of_long_logs(self):
        service = Service(SCENE, ((2,), (0,)))
        service.aloud(SUM)
        self.raises(InvalidRow, ['\n'.join(log_lines(service.log()))], Desk().say, '\n'.join(log_lines(service.log())))
