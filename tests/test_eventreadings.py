"""Reading events and logs: point 75."""

from mumhouse.errors import InvalidText
from mumhouse.eventreadings import read_event, read_log
from mumhouse.eventtexts import event_line
from tests.samples import PAY, RIGHT_NAMES, SIXTY, Case
from tests.test_eventtexts import BARE, BARE_LINES, EVENTS, FULL, FULL_LINES
from tests.test_expressions import ALWAYS, C, N, Maker
from tests.test_housereadings import INTEGERS, NO_INTEGERS, NO_NAMES, nested

NO_NUMBERS = (*[word for word in NO_INTEGERS if ' ' not in word], '-1', '-7', str(-SIXTY))
NO_SETS = ('', 'y,x', 'x,x', 'x,', ',x', 'x,,y', 'x;y', 'X', 'abcdefghi', '--', '-,x', 'x,-', 'x\n', '\n', '0', 'x,1', 'a,c,b')
NO_EXPRESSION = (('', 0), ('x', 0), ('+ 1', 2), ('+ 1 2 3', 3), ('+ 1 2 ', 3), ('my', 1), ('my P', 1), ('of ann', 2), ('01', 0),
                 ('-0', 0), ('1\n', 0), ('+ 1 = 0 0', 2), ('+ 1  2', 2), (' 1', 0), ('+ ' * 31 + '1', 31),
                 ('if 1 2 3', 1), ('sum 1 2', 2), ('if = 0 0 1', 5), (str(10 ** 60), 0))


class EventTest(Case):
    def wrong(self, text, field):
        self.raises(InvalidText, [0, field], read_event, text)

    def test_examples(self):
        self.same([read_event('aloud + of ann pay 1'), read_event('alone x 0')],
                  [('aloud', ('+', ('of', 'ann', 'pay'), 1)), ('alone', 'x', 0)])
        self.wrong('aloud = 0 0', 1)

    def test_words_missing_too_many_and_empty(self):
        for event, line in EVENTS:
            self.same(read_event(text=line), event)
            words = line.split(' ')
            for many in range(1, len(words)):
                self.wrong(' '.join(words[:many]), many)
                self.wrong(' '.join([*words[:many], '', *words[many:]]), many)
                self.wrong(' '.join([*words[:many], words[many] + '\n', *words[many + 1:]]), many)
                self.wrong(' '.join([*words[:many], '?', *words[many + 1:]]), many)
            for more in ('', '0', 'x', '\n', line):
                self.wrong(f'{line} {more}', len(words))
            self.wrong(' ' + line, 0)
            self.wrong('\n' + line, 0)
            self.wrong(line.replace(' ', '\n', 1), 0)

    def test_words(self):
        for word in ('', 'x', 'Aloud', 'service', 'people', 'field', 'world', 'undo', 'all', 'alou', 'aloud\n', '-', '0', 'number',
                     'loud', 'name'):
            self.wrong(word, 0)
            self.wrong(f'{word} x 0', 0)

    def test_names(self):
        for name in RIGHT_NAMES:
            self.same(read_event(f'alone {name} 3'), ('alone', name, 3))
            self.same(read_event(f'permit {name} 3'), ('permit', name, 3))
            self.same(read_event(f'rule {name}'), ('rule', name))
            self.same(read_event(f'asker {name}'), ('asker', name))
            self.same(read_event(f'secret {name} = 0 0'), ('secret', ALWAYS, (name,)))
        for name in (*NO_NAMES, 'x,y'):
            for text in ('alone {} 3', 'permit {} 3', 'rule {}', 'asker {}', 'rule {} x'):
                self.wrong(text.format(name), 1)

    def test_numbers(self):
        for word in INTEGERS:
            if not word.startswith('-'):
                for text, event in (('alone x {}', ('alone', 'x', int(word))), ('drop {}', ('drop', int(word))),
                                    ('few {}', ('few', int(word)))):
                    self.same(read_event(text.format(word)), event)
        for word in NO_NUMBERS:
            self.wrong(f'alone x {word}', 2)
            self.wrong(f'drop {word}', 1)
            self.wrong(f'few {word}', 1)

    def test_knowers(self):
        self.same(read_event('secret - = 0 0'), ('secret', ALWAYS, ()))
        self.same(read_event('secret a,my,secret = 0 0'), ('secret', ALWAYS, ('a', 'my', 'secret')))
        for word in NO_SETS:
            self.wrong(f'secret {word} = 0 0', 1)

    def test_expressions(self):
        for text, field in NO_EXPRESSION:
            self.wrong(f'aloud {text}', 1 + field)
            self.wrong(f'permit x {text}', 2 + field)
        for text, field in (('0', 0), ('my pay', 0), ('= 0', 2), ('= 0 0 0', 3), ('not 0', 1), ('and = 0 0 0', 4), ('', 0),
                            ('= = 0 0 0', 1), ('not ' * 31 + '= 0 0', 31), ('not ' * 30 + '= 0 0', 31)):
            self.wrong(f'outside {text}', 1 + field)
            self.wrong(f'secret x {text}', 2 + field)
            self.wrong(f'secret - {text}', 2 + field)
        self.same(read_event('outside ' + 'not ' * 29 + '= 0 0'), ('outside', nested(29, ALWAYS)))
        for text in ('aloud = 0 0', 'aloud not = 0 0', 'outside 0', 'outside my pay'):
            self.wrong(text, 1)

    def test_made_ones(self):
        maker = Maker(13)
        for _ in range(200):
            kind = maker.random.choice((N, C))
            words = event_line(('aloud' if kind == N else 'outside', maker.expression(kind, 3))).split(' ')
            k = maker.random.randrange(len(words))
            self.wrong(' '.join([*words[:k], '?', *words[k + 1:]]), k)


class LogTest(Case):
    def wrong(self, lines, line, field):
        before = list(lines)
        self.raises(InvalidText, [line, field], read_log, lines)
        self.same(lines, before)

    def replaced(self, k, line, lines=FULL_LINES):
        return [*lines[:k], line, *lines[k + 1:]]

    def test_example(self):
        self.wrong(['service bold 1 x,y 2 0 0', 'people ann', 'rule = 0 0'], 2, 0)

    def test_logs(self):
        self.same(read_log(FULL_LINES), (FULL,))
        self.same(read_log(lines=BARE_LINES), (BARE,))
        self.same(read_log([*FULL_LINES, *[line for _, line in EVENTS]]), (FULL, *[event for event, _ in EVENTS]))
        self.same(read_log([*BARE_LINES, 'drop 7', 'drop 7']), (BARE, ('drop', 7), ('drop', 7)))

    def test_what_is_not_checked(self):
        lines = ['service any 9 my 4 1 1', 'people a', 'field z 3 1', 'field b 0 0', 'rule = my q 1', 'world 5 6,7',
                 'secret q = my q of x y', 'permit zed 1,2;3 my q', 'alone zed 9']
        house = (('a',), (('z', 3, 1), ('b', 0, 0)), (('=', ('my', 'q'), 1),))
        self.same(read_log(lines),
                  (('service', (house, ('my',), ((('=', ('my', 'q'), ('of', 'x', 'y')), ('q',)),), 9), ((5,), (6, 7)), 'any',
                    (('zed', ('my', 'q'), ((1, 2), (3,))),)), ('alone', 'zed', 9)))

    def test_lines_missing(self):
        self.wrong([], 0, 0)
        for lines in (FULL_LINES, BARE_LINES):
            for many in range(1, len(lines)):
                self.wrong(lines[:many], many, 0)
        # A wrong line in front is told, not the missing one behind.
        self.wrong([*FULL_LINES[:3], 'field pay 0'], 3, 3)
        self.wrong(['service x 0 - 2 0'], 0, 6)
        for counts in (f'{SIXTY} 0 0', f'2 {SIXTY} 0', f'2 0 {SIXTY}'):
            self.wrong([f'service x 0 - {counts}'], 1, 0)
        self.wrong([f'service x 0 - {SIXTY} 0 0', *BARE_LINES[1:3]], 3, 0)
        self.wrong([f'service x 0 - 2 {SIXTY} 0', *BARE_LINES[1:], 'secret - = 0 0'], 5, 0)
        self.wrong([f'service x 0 - 2 0 {SIXTY}', *BARE_LINES[1:], 'permit x 0 0'], 5, 0)

    def test_lines_exchanged_left_out_and_put_in(self):
        for k in range(len(FULL_LINES) - 1):
            words = [line.split(' ')[0] for line in FULL_LINES]
            if words[k] != words[k + 1]:
                lines = self.replaced(k, FULL_LINES[k + 1])
                lines[k + 1] = FULL_LINES[k]
                # A rule in the place of a field is told behind it, where no field may stand.
                self.wrong(lines, k + 1 if (words[k], words[k + 1]) == ('field', 'rule') else k, 0)
        for k in range(len(FULL_LINES)):
            for line in ('', 'x', 'drop 0', ' ' + FULL_LINES[k], '\n'):
                self.wrong(self.replaced(k, line), k, 0)
        self.wrong([*FULL_LINES[:4], *FULL_LINES[5:]], 5, 0)
        self.wrong([*FULL_LINES[:4], FULL_LINES[4], *FULL_LINES[4:]], 6, 0)
        self.wrong([*FULL_LINES[:7], *FULL_LINES[8:]], 9, 0)
        self.wrong([*FULL_LINES[:7], FULL_LINES[7], *FULL_LINES[7:]], 10, 0)
        # One permit too many is an event that is not possible, one too few an event in its place.
        self.wrong([*FULL_LINES, FULL_LINES[-1]], len(FULL_LINES), 3)
        self.wrong([*FULL_LINES[:-1], 'permit x 7'], len(FULL_LINES) - 1, 3)
        self.wrong([*FULL_LINES, 'world 0'], len(FULL_LINES), 0)
        self.wrong([*FULL_LINES, ''], len(FULL_LINES), 0)
        self.wrong([*BARE_LINES, 'drop 0', '', 'drop 0'], 5, 0)
        self.wrong([''], 0, 0)

    def test_words_missing_too_many_and_empty(self):
        for k, line in enumerate(FULL_LINES):
            words = line.split(' ')
            for many in range(1, len(words)):
                if words[0] != 'world' or many < 2:
                    self.wrong(self.replaced(k, ' '.join(words[:many])), k, many)
                self.wrong(self.replaced(k, ' '.join([*words[:many], '', *words[many:]])), k, many)
                self.wrong(self.replaced(k, ' '.join([*words[:many], '?', *words[many + 1:]])), k, many)
                self.wrong(self.replaced(k, ' '.join([*words[:many], words[many] + '\n', *words[many + 1:]])), k, many)
            for more in ('', 'x', '?'):
                self.wrong(self.replaced(k, f'{line} {more}'), k, len(words))
            if words[0] != 'world':
                self.wrong(self.replaced(k, line + ' 0'), k, len(words))

    def test_first_line(self):
        for name in RIGHT_NAMES:
            self.same(read_log([f'service {name} 0 - 2 0 0', *BARE_LINES[1:]])[0][3], name)
            self.same(read_log([f'service bold 0 {name} 2 0 0', *BARE_LINES[1:]])[0][1][1], (name,))
        for name in (*NO_NAMES, 'a,b'):
            self.wrong([f'service {name} 0 - 2 0 0', *BARE_LINES[1:]], 0, 1)
        for word in NO_NUMBERS:
            self.wrong([f'service bold {word} - 2 0 0', *BARE_LINES[1:]], 0, 2)
            self.wrong([f'service bold 0 - {word} 0 0', *BARE_LINES[1:]], 0, 4)
            self.wrong([f'service bold 0 - 2 {word} 0', *BARE_LINES[1:]], 0, 5)
            self.wrong([f'service bold 0 - 2 0 {word}', *BARE_LINES[1:]], 0, 6)
        for word in ('0', '1'):
            self.wrong([f'service bold 0 - {word} 0 0', *BARE_LINES[1:]], 0, 4)
        for word in NO_SETS:
            self.wrong([f'service bold 0 {word} 2 0 0', *BARE_LINES[1:]], 0, 3)
        self.same(read_log([f'service bold {SIXTY} x,y 2 0 0', *BARE_LINES[1:]])[0][1][1:], (('x', 'y'), (), SIXTY))

    def test_house(self):
        for line, field in (('people', 1), ('people -', 1), ('people b,a', 1), ('people a b', 2), ('field f 0 0', 0)):
            self.wrong(self.replaced(1, line), 1, field)
        for line, field in (('field f 0', 3), ('field f 0 -0', 3), ('field F 0 0', 1), ('field f x 0', 2), ('rule = 0 0', 0),
                            (f'field f 0 {10 ** 60}', 3)):
            self.wrong(self.replaced(2, line), 2, field)
        for line, field in (('rule 0', 1), ('rule = 0', 3), ('world 0', 0), ('rule ' + 'not ' * 30 + '= 0 0', 32)):
            self.wrong(self.replaced(4, line), 4, field)
        self.wrong(self.replaced(5, 'field z 0 0'), 5, 0)
        self.same(read_log(self.replaced(4, 'field z 0 0'))[0][1][0][1][2], ('z', 0, 0))
        self.same(read_log(self.replaced(4, 'rule ' + 'not ' * 29 + '= 0 0'))[0][1][0][2][0], nested(29, ALWAYS))

    def test_world(self):
        for line, field in (('world', 1), ('world ', 1), ('world x', 1), ('world 0 x', 2), ('world 0,', 1), ('world 0 -0', 2),
                            ('world 0;1', 1), ('world 00', 1), ('World 0', 0), ('0 1', 0), (f'world {10 ** 60}', 1)):
            self.wrong(self.replaced(6, line), 6, field)
        self.same(read_log(self.replaced(6, f'world {SIXTY},-1 0 0,0,0'))[0][2], ((SIXTY, -1), (0,), (0, 0, 0)))

    def test_secrets(self):
        for word in NO_SETS:
            self.wrong(self.replaced(8, f'secret {word} = 0 0'), 8, 1)
        for line, field in (('secret - 0', 2), ('secret - = 0', 4), ('secret', 1), ('secret = 0 0', 1), ('permit x 0 0', 0)):
            self.wrong(self.replaced(8, line), 8, field)

    def test_permits(self):
        for word, grouping in (('0', ((0,),)), ('0,1', ((0, 1),)), ('0;1', ((0,), (1,))), ('-5,3;-1,7;2', ((-5, 3), (-1, 7), (2,))),
                               (f'{-SIXTY};{SIXTY}', ((-SIXTY,), (SIXTY,)))):
            self.same(read_log(self.replaced(10, f'permit x {word} 7'))[0][4][0], ('x', 7, grouping))
        for word in ('-', '', ';', ',', '0;', ';0', '0,', ',0', '0;;1', '0,,1', '1,0', '1;0', '0,0', '0;0', '0,1;1', '0,2;1,2',
                     '0,3;1,2,3', '1,2;0', '-0', '0;-1', '00', '0;01', 'x', '0;x', '0,x', '0\n', '0;1\n', '(0)', '0:1',
                     str(10 ** 60), f'0;{10 ** 60}', '--1', '-'):
            self.wrong(self.replaced(10, f'permit x {word} 7'), 10, 2)
        for name in (*NO_NAMES, 'x,y'):
            self.wrong(self.replaced(10, f'permit {name} 7 7'), 10, 1)
        for line, field in (('permit', 1), ('permit x', 2), ('permit x 7', 3), ('permit x 7 = 0 0', 3), ('permit x 7 + 1', 5),
                            ('permit x 7 7 7', 4), ('secret - = 0 0', 0), ('permit x my pay', 2)):
            self.wrong(self.replaced(10, line), 10, field)

    def test_events(self):
        many = len(FULL_LINES)
        for event, line in EVENTS:
            words = line.split(' ')
            for k in range(1, len(words)):
                self.wrong([*FULL_LINES, line, ' '.join(words[:k]), 'x'], many + 1, k)
            self.wrong([*FULL_LINES, line + ' 0', line], many, len(words))
            self.same(read_log([*BARE_LINES, line, line]), (BARE, event, event))

    def test_new_values_each_time(self):
        lines = [*FULL_LINES, 'few 1']
        self.same(read_log(lines), read_log(lines))
        self.assertIs(type(read_log(lines)), tuple)
        self.same(lines, [*FULL_LINES, 'few 1'])
        self.same(read_log(lines)[0][1][0] == PAY, False)
