"""The error classes of shiptrace/errors.py."""

import unittest

from shiptrace import errors

WITHOUT = ("InvalidHunks", "NoSuchCharacter", "NoSuchRevision", "NoSuchCommit", "NoSuchImpression")

ATTRIBUTES = {
    "DuplicateKey": "key",
    "CannotApply": "key",
    "EditsConflict": "key",
    "ConflictsWith": "commit",
    "BuildFailed": "error",
    "DependencyCycle": "target",
    "NoSuchTarget": "name",
    "NoSuchTest": "name",
    "FlagCycle": "flag",
    "TooManyFlags": "count",
    "PageBroken": "name",
    "InvalidConfig": "field",
    "CommandRefused": "reason",
}


class ErrorsTest(unittest.TestCase):

    def test_the_base_class_is_a_value_error(self):
        self.assertEqual(errors.ShiptraceError.__bases__, (ValueError,))
        self.assertEqual(errors.ShiptraceError.__module__, "shiptrace.errors")

    def test_each_class_is_a_direct_subclass(self):
        for name in (*WITHOUT, *ATTRIBUTES):
            error = getattr(errors, name)
            self.assertEqual(error.__bases__, (errors.ShiptraceError,), name)
            self.assertEqual(error.__module__, "shiptrace.errors", name)

    def test_the_classes_are_different(self):
        classes = [getattr(errors, name) for name in (*WITHOUT, *ATTRIBUTES)]
        self.assertEqual(len(set(classes)), 18)

    def test_errors_hold_their_attributes(self):
        for name, attribute in ATTRIBUTES.items():
            for value in ("file:a", 3, ("missing file", "a")):
                self.check_attribute(getattr(errors, name), attribute, value)

    def check_attribute(self, error, attribute, value):
        # How errors are created is not promised, only what they hold.
        try:
            created = error(value)
        except TypeError:
            return
        self.assertEqual(getattr(created, attribute), value, error.__name__)
        self.assertIsInstance(created, errors.ShiptraceError)


if __name__ == "__main__":
    unittest.main()
