"""What the tests have in common."""

import unittest


class Case(unittest.TestCase):
    """A test case that looks at the attributes of errors."""

    def refused(self, error, call, *args, told=None, **more):
        """The call raises exactly this error, and the error has the attributes that are told."""
        with self.assertRaises(error) as caught:
            call(*args, **more)
        self.assertIs(caught.exception.__class__, error)
        for name, value in (told or {}).items():
            found = getattr(caught.exception, name)
            self.assertEqual(found, value)
            self.assertIs(found.__class__, value.__class__)

    def same(self, found, wanted):
        """Equal values of the same kinds, also within."""
        self.assertEqual(found, wanted)
        self.assertEqual(kinds(found), kinds(wanted))


def kinds(value):
    """The kind of a value, and of all values in it; of a dict its keys, too, in their order."""
    if isinstance(value, (tuple, list)):
        return (value.__class__.__name__, [kinds(item) for item in value])
    if isinstance(value, dict):
        return ("dict", [(key, kinds(item)) for key, item in value.items()])
    return value.__class__.__name__


def listed(value):
    """The value with lists in place of all tuples."""
    if isinstance(value, (tuple, list)):
        return [listed(item) for item in value]
    return value


def tupled(value):
    """The value with tuples in place of all lists."""
    if isinstance(value, (tuple, list)):
        return tuple([tupled(item) for item in value])
    return value
