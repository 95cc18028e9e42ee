"""What tests of several files ask of the program."""

import itertools
import unittest


class Case(unittest.TestCase):
    def assert_raised(self, kind, attributes, function, *arguments, **named):
        """Looks at the very class, and at the attributes: by identity at what was given, else by kind and value."""
        with self.assertRaises(Exception) as caught:
            function(*arguments, **named)
        self.assertIs(caught.exception.__class__, kind, caught.exception)
        self.assertEqual(list(vars(caught.exception)), list(attributes))
        for name, value in attributes.items():
            told = getattr(caught.exception, name)
            if name == "given":
                self.assertIs(told, value)
            else:
                self.assertEqual((told.__class__, told), (value.__class__, value), name)

    def assert_first_error(self, function, parameters):
        """Looks at the errors with `given` of a function, of which the first one in the order of the signature comes.

        For each parameter there are its name, right values, the class of its error, and wrong values.
        """
        names = [name for name, *_ in parameters]
        rights = [right for _, right, *_ in parameters]
        wrongs = [wrong[:2] for *_, wrong in parameters]
        for at, (_, _, kind, wrong) in enumerate(parameters):
            later = [[*right[:1], *bad] for right, bad in zip(rights[at + 1:], wrongs[at + 1:])]
            for ahead in itertools.product(*rights[:at]):
                for behind in itertools.product(*later):
                    for value in wrong:
                        arguments = [*ahead, value, *behind]
                        named = dict(reversed(list(zip(names, arguments))))
                        self.assert_raised(kind, {"given": value}, function, *arguments)
                        self.assert_raised(kind, {"given": value}, function, **named)

    def assert_elements_error(self, function, ahead, names, kind, cases):
        """Looks at the errors with `index` of a function, told by the last one of these names.

        `ahead` are right values for the names before it; the cases are pairs of a wrong value and an index.
        """
        for value, index in cases:
            arguments = [*ahead, value]
            self.assert_raised(kind, {"index": index}, function, *arguments)
            self.assert_raised(kind, {"index": index}, function, **dict(zip(names, arguments)))
