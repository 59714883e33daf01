"""Point 4 and evennets/errors.py: the classes of errors."""

import unittest

from evennets import errors
from tests.samples import any_values

WITH_GIVEN = (
    "InvalidBase", "InvalidNet", "InvalidStart", "InvalidDepths", "InvalidBox", "InvalidWord", "InvalidShape",
    "InvalidTable", "InvalidNumber", "InvalidIndex", "InvalidPolynomial", "InvalidModulus", "InvalidRule",
    "InvalidGenerator", "TooMany")
WITH_INDEX = ("InvalidRows", "InvalidWords", "InvalidPolynomials", "InvalidWeights", "InvalidTables", "InvalidValues")
WITHOUT = ("UnlikeNets", "NotRegular", "NotEven", "NotFree")
ALL = WITH_GIVEN + WITH_INDEX + WITHOUT


class Errors(unittest.TestCase):
    def test_all_are_defined_here_and_no_others(self):
        classes = [name for name, what in vars(errors).items() if isinstance(what, type)]
        self.assertEqual(sorted(classes), sorted(ALL + ("EvenError",)))
        for name in classes:
            self.assertEqual(getattr(errors, name).__module__, "evennets.errors")
            self.assertEqual(getattr(errors, name).__name__, name)

    def test_what_they_stand_under(self):
        whole = (ValueError, Exception, BaseException, object)
        self.assertEqual(errors.EvenError.__mro__, (errors.EvenError, *whole))
        for name in ALL:
            kind = getattr(errors, name)
            self.assertEqual(kind.__mro__, (kind, errors.EvenError, *whole), name)

    def test_what_they_do_not_stand_under(self):
        for name in ALL + ("EvenError",):
            kind = getattr(errors, name)
            for other in (KeyError, IndexError, TypeError, LookupError, ArithmeticError):
                self.assertFalse(issubclass(kind, other), (name, other))
            for other in ALL:
                self.assertEqual(issubclass(kind, getattr(errors, other)), other == name, (name, other))

    def check_keeps(self, names, attribute, other):
        for name in names:
            kind = getattr(errors, name)
            for value in any_values() + [[1, [2]], {"a": {"b": ()}}, (1, [2], {3: 4}), 10 ** 400 - 1]:
                for error in (kind(value), kind(**{attribute: value})):
                    self.assertIs(getattr(error, attribute), value)
                    self.assertFalse(hasattr(error, other))
                    self.assertIsInstance(error, errors.EvenError)

    def test_given_is_kept(self):
        self.check_keeps(WITH_GIVEN, "given", "index")

    def test_index_is_kept(self):
        self.check_keeps(WITH_INDEX, "index", "given")

    def test_attributes_are_wanted(self):
        for name in WITH_GIVEN + WITH_INDEX:
            with self.assertRaises(TypeError):
                getattr(errors, name)()

    def test_without_attributes(self):
        for name in WITHOUT + ("EvenError",):
            error = getattr(errors, name)()
            self.assertEqual(vars(error), {})

    def test_raised_and_caught(self):
        for name in ALL:
            kind = getattr(errors, name)
            for base in (kind, errors.EvenError, ValueError):
                with self.assertRaises(base) as caught:
                    raise kind() if name in WITHOUT else kind((1, 2))
                self.assertIs(type(caught.exception), kind)


if __name__ == "__main__":
    unittest.main()
