import inspect
import unittest

from bikestands import errors
from tests.samples import no_tuples

BASES = {"NotRight": ValueError, "NotThere": LookupError, "CannotBe": ArithmeticError}
GIVEN = (
    "InvalidText", "InvalidSlots", "InvalidName", "InvalidAsk", "InvalidFact", "InvalidRecord", "InvalidWord",
    "InvalidWish", "InvalidClaim", "InvalidPlace", "NotATown", "NotALog",
)
INDEX = ("InvalidStands", "InvalidRoads", "InvalidFacts", "InvalidReadings", "InvalidWishes", "InvalidChanges")
# For each class that is no base class: its base class and its attributes in their order.
CLASSES = {
    **{name: ("NotRight", ("given",)) for name in GIVEN},
    **{name: ("NotRight", ("index",)) for name in INDEX},
    "UnknownName": ("NotThere", ("given",)),
    "InUse": ("NotThere", ("index",)),
    "Impossible": ("CannotBe", ()),
    "OtherTown": ("CannotBe", ()),
    "TooMany": ("CannotBe", ("most",)),
    "Contradicts": ("CannotBe", ("given",)),
    "NothingToUndo": ("CannotBe", ()),
    "Broken": ("CannotBe", ("index", "shown")),
}


def class_called(name):
    return getattr(errors, name)


def is_caught_by(error, handled):
    """Whether a handler for this class catches the error when it is raised."""
    try:
        raise error
    except handled as caught:
        return caught is error
    except Exception:
        return False


class Errors(unittest.TestCase):
    def test_the_module_has_these_classes_alone(self):
        found = [name for name, value in vars(errors).items() if inspect.isclass(value)]
        self.assertEqual(sorted(found), sorted([*BASES, *CLASSES]))

    def test_base_classes(self):
        for name, base in BASES.items():
            with self.subTest(name=name):
                self.assertEqual(class_called(name).__bases__, (base,))
        for name, (base, _) in CLASSES.items():
            with self.subTest(name=name):
                self.assertEqual(class_called(name).__bases__, (class_called(base),))

    def test_base_classes_are_made_and_raised_too(self):
        for name, base in BASES.items():
            with self.subTest(name=name):
                error = class_called(name)()
                self.assertTrue(is_caught_by(error, class_called(name)))
                self.assertTrue(is_caught_by(error, base))
                self.assertEqual(vars(error), {})

    def test_attributes_by_position_and_by_name(self):
        values = no_tuples() + [(), (1, 2), ["list"], (["list"], {})]
        for name, (_, attributes) in CLASSES.items():
            made = class_called(name)
            for value in values:
                told = [(value, number) for number in range(len(attributes))]
                by_position = made(*told)
                by_name = made(**dict(zip(attributes, told)))
                backwards = made(**dict(reversed(list(zip(attributes, told)))))
                for error in (by_position, by_name, backwards):
                    with self.subTest(name=name):
                        self.assertEqual(tuple(vars(error)), attributes)
                        for attribute, kept in zip(attributes, told):
                            self.assertIs(getattr(error, attribute), kept)

    def test_attributes_are_kept_as_they_are(self):
        for name, (_, attributes) in CLASSES.items():
            for value in no_tuples():
                error = class_called(name)(*[value for _ in attributes])
                for attribute in attributes:
                    with self.subTest(name=name, attribute=attribute):
                        self.assertIs(getattr(error, attribute), value)

    def test_broken_tells_its_attributes_apart(self):
        error = errors.Broken(2, (0, 3))
        self.assertEqual((error.index, error.shown), (2, (0, 3)))
        error = errors.Broken(shown=None, index=0)
        self.assertEqual((error.index, error.shown), (0, None))

    def test_raised_and_caught(self):
        for name, (base, attributes) in CLASSES.items():
            for other in [*BASES, *CLASSES]:
                with self.subTest(name=name, other=other):
                    error = class_called(name)(*attributes)
                    self.assertEqual(is_caught_by(error, class_called(other)), other in (name, base))
            for other in BASES.values():
                with self.subTest(name=name, other=other):
                    error = class_called(name)(*attributes)
                    self.assertEqual(is_caught_by(error, other), other is BASES[base])

    def test_errors_equal_themselves_alone_and_are_true(self):
        for name, (_, attributes) in CLASSES.items():
            with self.subTest(name=name):
                one, other = class_called(name)(*attributes), class_called(name)(*attributes)
                self.assertTrue(one == one)
                self.assertFalse(one != one)
                self.assertFalse(one == other)
                self.assertTrue(one != other)
                self.assertTrue(bool(one))


if __name__ == "__main__":
    unittest.main()
