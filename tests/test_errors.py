"""Point 13 and the interface: the errors, their families, their fields."""

import copy
import unittest

from actasone import errors

FIELDS = {
    'InvalidPaper': ('PaperError', ('word', 'at')),
    'NotUsable': ('BookError', ('word', 'at')),
    'NoTable': ('BookError', ('ring', 'total')),
    'InvalidEvent': ('LiveError', ('event', 'reason')),
    'NothingToUndo': ('LiveError', ('steps',)),
    'InvalidText': ('TextError', ('line', 'field')),
    'InvalidRow': ('TextError', ('row',)),
}


class Errors(unittest.TestCase):
    def test_families(self):
        self.assertEqual(errors.CopyError.__bases__, (ValueError,))
        for name in ('PaperError', 'BookError', 'LiveError', 'TextError'):
            self.assertEqual(getattr(errors, name).__bases__, (errors.CopyError,))
        for name, (family, _) in FIELDS.items():
            self.assertEqual(getattr(errors, name).__bases__, (getattr(errors, family),))

    def test_all_are_caught_by_the_base(self):
        for name, (family, fields) in FIELDS.items():
            for base in (errors.CopyError, ValueError, getattr(errors, family)):
                with self.assertRaises(base):
                    raise getattr(errors, name)(*fields)

    def test_fields_are_the_very_objects(self):
        objects = [object(), [1, [2]], None, True, (1, [3]), {'a': 1}, 'word', 10 ** 70, ValueError('x')]
        for name, (_, fields) in FIELDS.items():
            for one in objects:
                for two in objects:
                    values = (one, two)[: len(fields)]
                    for error in (
                        getattr(errors, name)(*values),
                        getattr(errors, name)(**dict(zip(fields, values))),
                    ):
                        self.assertEqual(sorted(vars(error)), sorted(fields))
                        for field, value in zip(fields, values):
                            self.assertIs(getattr(error, field), value)

    def test_fields_are_not_changed(self):
        value = [1, [2, {'a': []}]]
        before = copy.deepcopy(value)
        error = errors.InvalidEvent(value, value)
        self.assertEqual(value, before)
        self.assertIs(error.event, error.reason)

    def test_exactly_its_fields(self):
        for name, (_, fields) in FIELDS.items():
            for values in ((), (1,) * (len(fields) - 1), (1,) * (len(fields) + 1)):
                if len(values) != len(fields):
                    with self.assertRaises(TypeError):
                        getattr(errors, name)(*values)
            with self.assertRaises(TypeError):
                getattr(errors, name)(*fields[1:], other=1)
