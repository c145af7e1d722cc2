"""[4]: the errors."""

import unittest

from heirorders import errors
from tests.samples import odd_values

WITHOUT = ("InvalidCase", "InvalidCommand", "Mismatch")
WITH = (("InvalidWill", "word"), ("InvalidFamily", "word"), ("InvalidText", "at"), ("InvalidOrder", "at"),
        ("Refused", "at"))
ALL = WITHOUT + tuple(name for name, _ in WITH)


class Bases(unittest.TestCase):

    def test_base(self):
        self.assertEqual(errors.HeirError.__bases__, (ValueError,))

    def test_direct_subclasses(self):
        for name in ALL:
            self.assertEqual(getattr(errors, name).__bases__, (errors.HeirError,), name)

    def test_no_name(self):
        self.assertEqual(errors.NoName.__bases__, (KeyError,))
        self.assertFalse(issubclass(errors.NoName, errors.HeirError))

    def test_all_differ(self):
        self.assertEqual(len({getattr(errors, name) for name in ALL}), len(ALL))

    def test_catching_one_does_not_catch_another(self):
        for name in ALL:
            for other in ALL:
                found = issubclass(getattr(errors, name), getattr(errors, other))
                self.assertEqual(found, name == other, (name, other))


class Arguments(unittest.TestCase):

    def test_kept_by_position_and_by_name(self):
        for name, attribute in WITH + (("NoName", "name"),):
            made = getattr(errors, name)
            for value in odd_values():
                self.assertIs(getattr(made(value), attribute), value)
                self.assertIs(getattr(made(**{attribute: value}), attribute), value)

    def test_kept_itself(self):
        kept = [1]
        error = errors.NoName(kept)
        kept.append(2)
        self.assertEqual(error.name, [1, 2])

    def test_without_arguments(self):
        for name in WITHOUT:
            error = getattr(errors, name)()
            with self.assertRaises(ValueError) as caught:
                raise error
            self.assertIs(caught.exception, error)

    def test_missing_arguments(self):
        for name, _ in WITH + (("NoName", "name"),):
            self.assertRaises(TypeError, getattr(errors, name))

    def test_raised_and_caught(self):
        for name, attribute in WITH:
            with self.assertRaises(errors.HeirError) as caught:
                raise getattr(errors, name)(3)
            self.assertEqual(getattr(caught.exception, attribute), 3)
        with self.assertRaises(KeyError) as caught:
            raise errors.NoName("zoe")
        self.assertEqual(caught.exception.name, "zoe")


if __name__ == "__main__":
    unittest.main()
