"""Help for the tests: errors with their attributes, and values of wrong kinds."""

import unittest


class Case(unittest.TestCase):

    def refused(self, error, attributes, action, *given, **named):
        """The action raises just this error, with just these attributes: the very values."""
        with self.assertRaises(Exception) as caught:
            action(*given, **named)
        raised = caught.exception
        self.assertIs(type(raised), error, (given, named, raised))
        self.assertEqual(set(vars(raised)), set(attributes), (given, named))
        for name, wanted in attributes.items():
            got = getattr(raised, name)
            if isinstance(wanted, (int, tuple)) and not isinstance(wanted, bool):
                self.assertIs(type(got), type(wanted), (given, named))
                self.assertEqual(got, wanted, (given, named))
            else:
                self.assertIs(got, wanted, (given, named))

    def refused_both(self, error, attributes, action, **named):
        """By name and by position, in the order of the signature."""
        self.refused(error, attributes, action, **named)
        self.refused(error, attributes, action, *named.values())


class Stranger:
    """A value of a class that the program does not know."""


# Wrong wherever an integer is asked for.
NO_INTEGERS = (True, False, None, "1", "", b"1", (), (1,), [1], {}, {1: 2}, {1}, Stranger(), int)
