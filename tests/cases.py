"""A test case that looks at results to the kind, and at errors to the field."""

import unittest

from actasone.errors import InvalidPaper, InvalidText, NotUsable


def told(value):
    """A value with the kinds of all its parts, so that True is not 1 and a list no tuple."""
    if isinstance(value, (tuple, list)):
        return (type(value).__name__, [told(part) for part in value])
    if isinstance(value, dict):
        return ('dict', [told(list(pair)) for pair in value.items()])
    return (type(value).__name__, value)


class Case(unittest.TestCase):
    maxDiff = None

    def same(self, result, wanted):
        self.assertEqual(told(result), told(wanted))

    def raised(self, kind, fields, call, *args, **named):
        """The call raises just this error, and leaves what it was passed as it was."""
        before = told([list(args), named])
        with self.assertRaises(kind) as caught:
            call(*args, **named)
        self.assertIs(type(caught.exception), kind)
        self.same(vars(caught.exception), fields)
        self.assertEqual(told([list(args), named]), before)

    def refused(self, word, call, *args, **named):
        self.raised(NotUsable, {'word': word, 'at': -1}, call, *args, **named)

    def wrong(self, word, at, call, *args, **named):
        self.raised(InvalidPaper, {'word': word, 'at': at}, call, *args, **named)

    def unread(self, line, field, call, *args):
        self.raised(InvalidText, {'line': line, 'field': field}, call, *args)

    def judged(self, wanted, call, *args):
        """A checker says what is wanted: a list with its result, or the word and the place."""
        if isinstance(wanted, list):
            self.same(call(*args), wanted[0])
        else:
            self.wrong(wanted[0], wanted[1], call, *args)
        return wanted[0] if isinstance(wanted, tuple) else 'let'
