"""Tests of the errors of the interface."""

import unittest

from turnshelves import errors

PLAIN = (
    "InvalidArgument",
    "TransactionOpen",
    "NoTransaction",
    "NoSavepoint",
    "DiskFull",
    "PowerOff",
    "DatabaseOpen",
    "DatabaseClosed",
    "DamagedData",
)


class ErrorsTest(unittest.TestCase):
    def test_base_class_is_a_value_error(self):
        self.assertTrue(issubclass(errors.ShelfError, ValueError))
        with self.assertRaises(ValueError):
            raise errors.ShelfError("told")

    def test_each_class_stands_under_the_base_class(self):
        for name in PLAIN + ("Refused",):
            with self.subTest(name=name):
                self.assertTrue(issubclass(getattr(errors, name), errors.ShelfError))

    def test_each_class_is_an_error_of_its_own(self):
        kinds = [getattr(errors, name) for name in PLAIN + ("Refused",)]
        for kind in kinds:
            others = [other for other in kinds if other is not kind]
            self.assertFalse(issubclass(kind, tuple(others)), kind)

    def test_each_class_is_created_with_words(self):
        for name in PLAIN + ("ShelfError",):
            with self.subTest(name=name):
                kind = getattr(errors, name)
                with self.assertRaises(kind) as caught:
                    raise kind("some words")
                self.assertEqual(str(caught.exception), "some words")

    def test_refused_has_its_problem(self):
        for problem in (("any",), ("no relation", "r"), ("exists", "relation", "r"), ()):
            with self.subTest(problem=problem):
                with self.assertRaises(errors.Refused) as caught:
                    raise errors.Refused(problem)
                self.assertEqual(caught.exception.problem, problem)
                self.assertIs(type(caught.exception.problem), tuple)

    def test_refused_is_caught_as_a_shelf_error(self):
        with self.assertRaises(errors.ShelfError) as caught:
            raise errors.Refused(problem=("room",))
        self.assertEqual(caught.exception.problem, ("room",))


if __name__ == "__main__":
    unittest.main()
