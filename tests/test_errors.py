"""Tests of nearvault.errors."""

import unittest

from nearvault.errors import Conflict, NoTransaction, PowerCut, VaultError, WrongStore

DERIVED = (PowerCut, Conflict, NoTransaction, WrongStore)


class ErrorsTest(unittest.TestCase):
    def test_vault_error_is_a_value_error(self):
        self.assertTrue(issubclass(VaultError, ValueError))

    def test_each_error_is_derived_from_vault_error(self):
        for kind in DERIVED:
            with self.subTest(kind=kind.__name__):
                self.assertTrue(issubclass(kind, VaultError))
                self.assertTrue(issubclass(kind, ValueError))
                self.assertIsNot(kind, VaultError)

    def test_each_error_is_made_without_arguments(self):
        for kind in DERIVED:
            with self.subTest(kind=kind.__name__):
                with self.assertRaises(kind) as caught:
                    raise kind()
                self.assertIs(type(caught.exception), kind)
                self.assertEqual(caught.exception.args, ())

    def test_no_error_is_caught_as_another(self):
        for kind in DERIVED:
            for other in DERIVED:
                with self.subTest(kind=kind.__name__, other=other.__name__):
                    self.assertEqual(issubclass(kind, other), kind is other)


if __name__ == "__main__":
    unittest.main()
