"""What several test files need."""

import unittest


def var(number):
    return ("var", number)


def num(number):
    return ("num", number)


def new(number):
    return ("new", number)


def told(value):
    """The value with the kind of each part, so that 1 and True or () and [] are not alike."""
    if isinstance(value, (tuple, list)):
        return (type(value).__name__, tuple(told(part) for part in value))
    return (type(value).__name__, value)


class Case(unittest.TestCase):
    maxDiff = None

    def exact(self, found, expected, note=None):
        """Equal, and of the very same kinds of values at each place."""
        self.assertEqual(found, expected, note)
        self.assertEqual(told(found), told(expected), note)

    def fault(self, error, fields, work, *given):
        """The work raises just this class of error, with these values of its fields."""
        with self.assertRaises(error) as caught:
            work(*given)
        self.assertIs(type(caught.exception), error)
        for name, value in fields.items():
            self.exact(getattr(caught.exception, name), value, (name, given))
