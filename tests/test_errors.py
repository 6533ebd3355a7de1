"""Point 27: the errors, their places under TwoError, and their attributes."""

import unittest

from twolistings import errors
from twolistings.errors import TwoError

ATTRIBUTES = {
    "BadModes": (),
    "BadRow": ("place",),
    "NoPlace": ("place",),
    "BadRecord": ("number",),
    "NoRecord": ("number",),
    "BadEvent": ("number",),
    "BadRules": (),
    "BadPlan": (),
    "NoQuestion": ("word",),
    "BadPosition": (),
    "BadSaying": ("saying",),
    "BadWriter": ("at",),
    "BadDeed": ("at",),
    "Parted": ("name",),
    "NoBook": (),
    "NoDefeat": (),
    "BadName": (),
    "BadThing": (),
    "BadSteps": (),
    "OffBook": ("number", "name"),
    "Barred": ("name",),
    "BadOrder": (),
    "BadText": ("number",),
}
VALUES = [
    None, True, False, 0, -1, 10 ** 40, "", "a/b", (), (0, "strike", 0), [], [[1], ("x",)],
    ("head", ("file", "")), 10 ** 5000, {"a": [1]}, object(),
]


def class_of(word):
    return getattr(errors, word)


class Places(unittest.TestCase):
    def test_two_error_is_a_direct_subclass_of_value_error(self):
        self.assertEqual(TwoError.__bases__, (ValueError,))

    def test_each_error_is_a_direct_subclass_of_two_error(self):
        for word in ATTRIBUTES:
            with self.subTest(word):
                self.assertEqual(class_of(word).__bases__, (TwoError,))
                self.assertEqual(class_of(word).__name__, word)
                self.assertEqual(class_of(word).__module__, "twolistings.errors")

    def test_no_error_is_one_of_another(self):
        for word in ATTRIBUTES:
            for other in ATTRIBUTES:
                if word != other:
                    self.assertFalse(issubclass(class_of(word), class_of(other)), (word, other))

    def test_there_are_no_other_errors(self):
        found = [word for word, value in vars(errors).items() if isinstance(value, type)]
        self.assertEqual(sorted(found), sorted(["TwoError", *ATTRIBUTES]))

    def test_each_is_caught_as_two_error_and_as_value_error(self):
        for word, names in ATTRIBUTES.items():
            for kind in (TwoError, ValueError, class_of(word)):
                with self.assertRaises(kind):
                    raise class_of(word)(*names)


class Attributes(unittest.TestCase):
    def rows(self):
        """Each error that has attributes, with each choice of values for them."""
        for word, names in ATTRIBUTES.items():
            for at in range(len(VALUES)):
                given = [VALUES[(at + k) % len(VALUES)] for k in range(len(names))]
                yield word, names, given

    def check(self, error, names, given):
        for name, value in zip(names, given):
            self.assertIs(getattr(error, name), value)
        self.assertEqual(sorted(vars(error)), sorted(names))

    def test_by_position(self):
        for word, names, given in self.rows():
            with self.subTest(word):
                self.check(class_of(word)(*given), names, given)

    def test_by_name(self):
        for word, names, given in self.rows():
            with self.subTest(word):
                self.check(class_of(word)(**dict(zip(names, given))), names, given)

    def test_by_name_in_another_order(self):
        error = errors.OffBook(name=None, number=[3])
        self.assertEqual([error.number, error.name], [[3], None])

    def test_by_position_and_by_name(self):
        error = errors.OffBook(3, name="a")
        self.assertEqual([error.number, error.name], [3, "a"])

    def test_after_raising(self):
        with self.assertRaises(errors.OffBook) as held:
            raise errors.OffBook(7, "a/b")
        self.assertEqual([held.exception.number, held.exception.name], [7, "a/b"])

    def test_the_arguments_are_needed(self):
        for word, names in ATTRIBUTES.items():
            if names:
                with self.subTest(word), self.assertRaises(TypeError):
                    class_of(word)()


if __name__ == "__main__":
    unittest.main()
