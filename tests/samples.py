"""The values of the document's examples, and what the tests share."""

import unittest
from itertools import combinations, product

PAY = (('ann', 'bob'), (('pay', 0, 2),), ())
SUM = ('sum', ('my', 'pay'), ('=', 0, 0))
ANN = ('of', 'ann', 'pay')
BOB = ('of', 'bob', 'pay')
TOP = (('=', ('of', 'ann', 'pay'), 2), ())
SCENE = (PAY, ('x', 'y'), (TOP,), 1)
SUMS = ((0,), (1,), (2,), (3, 4))
W = tuple(((a,), (b,)) for a in range(3) for b in range(3))

IS = ('if', ('=', ANN, 1), 1, 0)
NONE = ('if', ('=', ANN, 0), 1, 0)
ALWAYS = ('=', 0, 0)
NEVER = ('<', 0, 0)

# Values of many kinds, none of them an integer.
ANY = (True, False, None, '', '0', 'a', (), (0,), (True,), [], [0], ((0,),), [[]], ('a',), ((((), 'b'),),))

# Three people and two fields, with numbers of both signs.
TRIO = (('ann', 'bob', 'cid'), (('age', -1, 1), ('pay', 0, 2)), ())

SIXTY = 10 ** 60 - 1
# Groupings that have not exactly the values 0, 1 and 2.
WRONG_VALUES = ((), ((0,), (1,)), ((0, 3),), ((0,), (1,), (2,), (3,)), ((-1, 0), (1,), (2,)), ((3,), (4,), (5,)))
# No divisions of the group (1, 2, 3, 4).
WRONG_DIVISIONS = (0, ((3, 4), (1, 2)), ((1, 2), (1, 2)), ((3, 4), (3, 4)), ((1, 2), ()), ((), (1, 2, 3, 4)),
                   ((1, 2, 3, 4), ()), ((1, 2),),
                   ((1, 2), (3, 4), ()), ((1, 2), (3, 4), (5,)), ((1, 2), (3,)), ((1, 2), (3, 4, 5)), ((1, 2), (2, 3, 4)),
                   ((2,), (3, 4)),
                   ((1, 2), (4, 3)), ((2, 1), (3, 4)), ((1, 1, 2), (3, 4)), ([1, 2], (3, 4)), [(1, 2), (3, 4)],
                   ((True, 2), (3, 4)), ((1, 2), None),
                   ((0, 1, 2), (3, 4)), ((1,), (2,), (3, 4)), ((1, 2, 3, 4),), ((0,), (1, 2, 3, 4)))
WRONG_NAMES = ('', 'Ann', 'a1', 'a b', '`', '{', 'a`', '{z', 'abcdefghi', 'a\n', 'A', 'an-n', '_', 0, 1, True, None,
               ('ann',), ['ann'], ())
RIGHT_NAMES = ('a', 'z', 'az', 'ann', 'abcdefgh', 'zzzzzzzz', 'my', 'people', 'field', 'rule', 'and', 'of')


def worlds_of(house):
    """All worlds of a house, possible or not, ascending."""
    rows = list(product(*[range(low, high + 1) for _, low, high in house[1]]))
    return tuple(product(rows, repeat=len(house[0])))


def divisions(group):
    """All divisions of a group, as point 44 says it, ascending."""
    parts = [part for size in range(1, len(group)) for part in combinations(group, size) if group[0] in part]
    return sorted((part, tuple(value for value in group if value not in part)) for part in parts)


def with_item(row, k, item):
    """A tuple with another element k."""
    return (*row[:k], item, *row[k + 1:])


class Case(unittest.TestCase):
    """A test case that compares kinds, too: True is not 1, and a list is no tuple."""

    def same(self, found, due):
        self.assertEqual(repr(found), repr(due))

    def raises(self, error, fields, function, *given, **named):
        """The call raises exactly this error with exactly these fields, in this order."""
        with self.assertRaises(error) as caught:
            function(*given, **named)
        self.assertIs(caught.exception.__class__, error)
        self.same(list(vars(caught.exception).values()), list(fields))
