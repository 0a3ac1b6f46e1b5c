"""The refusals."""

import unittest

from poolbook import errors

WITH_FIELDS = ["TooMany", "Odd"]
PLAIN = ["NoThing", "NoKind", "NoName", "Taken", "NoColumns", "Full", "NoHouse", "NoRow", "NoColumn", "Same", "NoKey"]


class Errors(unittest.TestCase):
    def test_a_refusal_is_a_value_error(self):
        self.assertTrue(issubclass(errors.PoolError, ValueError))

    def test_each_stands_under_pool_error_and_under_no_other_one(self):
        classes = [getattr(errors, name) for name in WITH_FIELDS + PLAIN]
        for one in classes:
            self.assertTrue(issubclass(one, errors.PoolError))
            self.assertFalse(issubclass(errors.PoolError, one))
            self.assertEqual([other for other in classes if issubclass(one, other)], [one])

    def test_fields(self):
        self.assertEqual(errors.TooMany(12).most, 12)
        kind = (("elm", "code"), ("elm", "size"))
        self.assertEqual(errors.Odd(kind).what, kind)

    def test_fields_are_needed(self):
        for one in (errors.TooMany, errors.Odd):
            with self.assertRaises(TypeError):
                one()

    def test_those_without_fields_are_made_of_nothing(self):
        for name in PLAIN:
            with self.assertRaises(errors.PoolError):
                raise getattr(errors, name)()
