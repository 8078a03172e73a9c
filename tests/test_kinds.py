"""Kinds: points 2, 3 and 10."""

from mumhouse.kinds import is_integer, is_name, is_names, is_number, same
from tests.samples import RIGHT_NAMES, SIXTY, WRONG_NAMES, Case

OTHERS = (True, False, None, '', '0', '1', 'a', (), (0,), [], [1], ((),))


class KindsTest(Case):
    def test_integers(self):
        for thing in (0, 1, -1, 7, SIXTY, -SIXTY, 10 ** 90):
            self.same(is_integer(thing), True)
        for thing in OTHERS:
            self.same(is_integer(thing), False)

    def test_numbers(self):
        for thing in (0, 1, 2, SIXTY, 10 ** 90):
            self.same(is_number(thing), True)
        for thing in (*OTHERS, -1, -SIXTY):
            self.same(is_number(thing), False)

    def test_names(self):
        for thing in RIGHT_NAMES:
            self.same(is_name(thing), True)
        for thing in WRONG_NAMES:
            self.same(is_name(thing), False)

    def test_every_sign(self):
        for code in range(32, 127):
            letter = chr(code)
            for name in (letter, 'a' + letter, letter + 'z', 'a' + letter + 'z'):
                self.same(is_name(name), letter in 'abcdefghijklmnopqrstuvwxyz')

    def test_length_of_names(self):
        for many in range(12):
            self.same(is_name('q' * many), 1 <= many <= 8)

    def test_sets_of_names(self):
        for thing in ((), ('a',), ('a', 'b'), ('a', 'aa', 'ab', 'b'), RIGHT_NAMES[:2], ('zz', 'zzz')):
            self.same(is_names(thing), True)
        for thing in (('b', 'a'), ('a', 'a'), ('a', 'b', 'b'), ('a', 'c', 'b'), ['a'], [], 'a', '', None, 0, True,
                      {'a': True}, ('a', 1), (1,), ('a', ('b',)), ('a', 'B'), ('a', ''), ('', 'a'), ((),), ('a', None),
                      ('abcdefghi',), (True,)):
            self.same(is_names(thing), False)

    def test_by_name(self):
        self.same([is_integer(thing=1), is_number(thing=-1), is_name(thing='a'), is_names(thing=('a',))],
                  [True, False, True, True])

    def test_same(self):
        values = [0, 1, -1, True, False, None, '', '0', 'a', (), (0,), (1,), (True,), (False,), [], [0], [1], [True],
                  (0, 1), (0, True), ((0,), 1), ((0,), True), ((False,), 1), ([0],), ([],), ((),), [()], [[]]]
        for k, one in enumerate(values):
            for j, other in enumerate(values):
                self.same(same(one, other), k == j)

    def test_same_however_deep(self):
        def nested(core):
            for _ in range(3000):
                core = (core, 0)
            return core
        self.same([same(nested(1), nested(1)), same(nested(1), nested(2)), same(nested(1), nested(True))],
                  [True, False, False])
