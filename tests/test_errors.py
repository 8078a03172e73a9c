"""Errors: points 2 and 9, and the list at the end of the interface."""

import unittest

from mumhouse import errors

LISTED = {
    'InvalidPaper': ('PaperError', ('word', 'at')),
    'UnfitExpression': ('HouseError', ('path',)),
    'InvalidGrouping': ('HouseError', ('word', 'at')),
    'InvalidHall': ('HouseError', ('word', 'at')),
    'UnknownAsker': ('HouseError', ('asker',)),
    'InvalidEvent': ('ServiceError', ('event', 'reason')),
    'NothingToUndo': ('ServiceError', ('steps',)),
    'InvalidText': ('TextError', ('line', 'field')),
    'InvalidRow': ('TextError', ('row',)),
}
FAMILIES = ('PaperError', 'HouseError', 'ServiceError', 'TextError')
VALUES = (0, -1, 10 ** 60, True, False, None, '', 'a`{\n', (), (1, (2,)), [], [True, [0]])


class Unequal:
    """An error does not inspect what it keeps."""

    def __eq__(self, other):
        raise AssertionError('inspected')

    def __bool__(self):
        raise AssertionError('inspected')

    def __len__(self):
        raise AssertionError('inspected')

    def __repr__(self):
        raise AssertionError('inspected')


class ErrorsTest(unittest.TestCase):
    def test_bases(self):
        self.assertEqual(errors.MumError.__bases__, (ValueError,))
        for name in FAMILIES:
            self.assertEqual(getattr(errors, name).__bases__, (errors.MumError,), name)
        for name, (family, _) in LISTED.items():
            self.assertEqual(getattr(errors, name).__bases__, (getattr(errors, family),), name)

    def test_no_other_classes(self):
        found = {name for name, value in vars(errors).items() if isinstance(value, type)}
        self.assertEqual(found, {'MumError', *FAMILIES, *LISTED})

    def test_the_very_objects_by_position_and_by_name(self):
        for name, (_, fields) in LISTED.items():
            made = getattr(errors, name)
            for value in (*VALUES, Unequal(), object()):
                given = [value, [value]][:len(fields)]
                named = dict(zip(fields, given))
                for error in (made(*given), made(**named), made(**dict(reversed(named.items())))):
                    self.assertEqual(list(vars(error)), list(vars(made(**named))))
                    self.assertEqual(set(vars(error)), set(fields), name)
                    for field, kept in named.items():
                        self.assertIs(getattr(error, field), kept)

    def test_exactly_the_fields(self):
        for name, (_, fields) in LISTED.items():
            made = getattr(errors, name)
            for given in range(4):
                if given != len(fields):
                    with self.assertRaises(TypeError):
                        made(*[0] * given)
            with self.assertRaises(TypeError):
                made(**{field: 0 for field in fields}, other=0)

    def test_raised_and_caught_by_family(self):
        for name, (family, fields) in LISTED.items():
            for base in (getattr(errors, name), getattr(errors, family), errors.MumError, ValueError):
                with self.assertRaises(base):
                    raise getattr(errors, name)(*[0] * len(fields))

    def test_families_do_not_cross(self):
        for name, (family, _) in LISTED.items():
            for other in FAMILIES:
                related = issubclass(getattr(errors, name), getattr(errors, other))
                self.assertEqual(related, other == family)
