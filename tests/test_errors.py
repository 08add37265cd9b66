"""The errors of the interface."""
import unittest

from faultdue.errors import BadEntry, BadPlan, BadState, BadSystem, FaultError

ERRORS = (BadSystem, BadPlan, BadEntry, BadState)


class ErrorsTest(unittest.TestCase):
    def test_fields(self):
        error = BadSystem(3, "too full")
        self.assertEqual((error.line, error.reason), (3, "too full"))
        self.assertEqual(BadPlan(4).place, 4)
        self.assertEqual(BadEntry(0).place, 0)
        BadState()

    def test_fields_by_name(self):
        error = BadSystem(line=2, reason="out of range")
        self.assertEqual((error.line, error.reason), (2, "out of range"))
        self.assertEqual(BadPlan(place=1).place, 1)
        self.assertEqual(BadEntry(place=5).place, 5)

    def test_all_are_fault_errors(self):
        self.assertTrue(issubclass(FaultError, ValueError))
        for error in ERRORS:
            self.assertTrue(issubclass(error, FaultError))

    def test_none_is_under_another(self):
        for error in ERRORS:
            for other in ERRORS:
                self.assertEqual(issubclass(error, other), error is other)

    def test_defined_in_their_file(self):
        for error in (FaultError,) + ERRORS:
            self.assertEqual(error.__module__, "faultdue.errors")


if __name__ == "__main__":
    unittest.main()
