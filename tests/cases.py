"""What tests of several files ask of the program."""

import itertools
import unittest


class Case(unittest.TestCase):
    def assert_raised(self, kind, attributes, function, *arguments, **named):
        """Looks at the very class, and at the attributes by identity or, for an index, by value."""
        with self.assertRaises(Exception) as caught:
            function(*arguments, **named)
        self.assertIs(caught.exception.__class__, kind, caught.exception)
        self.assertEqual(list(vars(caught.exception)), list(attributes))
        for name, value in attributes.items():
            told = getattr(caught.exception, name)
            self.assertTrue(told is value or (isinstance(value, int) and told == value), (name, told, value))

    def assert_first_error(self, function, parameters):
        """Looks at the errors with `given` of a function, of which the first one in the order of the signature comes.

        For each parameter there are its name, right values, the class of its error, and wrong values.
        """
        names = [name for name, *_ in parameters]
        rights = [right for _, right, *_ in parameters]
        wrongs = [wrong[:2] for *_, wrong in parameters]
        for at, (_, _, kind, wrong) in enumerate(parameters):
            later = [[*right[:1], *bad] for right, bad in zip(rights[at + 1:], wrongs[at + 1:])]
            for ahead in itertools.product(*rights[:at]):
                for behind in itertools.product(*later):
                    for value in wrong:
                        arguments = [*ahead, value, *behind]
                        named = dict(reversed(list(zip(names, arguments))))
                        self.assert_raised(kind, {"given": value}, function, *arguments)
                        self.assert_raised(kind, {"given": value}, function, **named)
