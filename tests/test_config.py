"""Configurations: point 202."""

import unittest

from shiptrace.errors import InvalidConfig
from shiptrace.pipeline import Config

EIGHT = tuple("abcdefgh")

# For each field, in the order of the parameters: values that are invalid, and values that are not.
FIELDS = (
    ("members", ((), EIGHT + ("i",), ("ann", "bob", "ann")), (("ann",), EIGHT)),
    ("threshold", (0, 9, -1, 100), (1, 8)),
    (
        "rings",
        ((), (4,), (17,), (4, 8), (8, 4, 16), (4, 4, 16), (4, 16, 16), (0, 16), (-3, 16), (16, 4), (4, 17),
         (1, 2, 3, 4, 5, 6, 16)),
        ((16,), (1, 16), (15, 16), (1, 2, 3, 4, 5, 16)),
    ),
    ("min_good_users", (-1, -7), (0, 1, 1000)),
    ("error_budget", (0, -1), (1, 1000)),
    ("batch_size", (0, -1), (1, 1000)),
    ("cache_size", (-1, -5), (0, 1, 1000)),
)


def made(**fields):
    return Config(fields.pop("members", ("ann", "bob")), **fields)


class ConfigTest(unittest.TestCase):

    def check_invalid(self, fields, name):
        with self.assertRaises(InvalidConfig) as caught:
            made(**fields)
        self.assertEqual(caught.exception.field, name, fields)

    def test_the_fields(self):
        config = Config(("ann", "bob"))
        self.assertEqual(config.members, ("ann", "bob"))
        told = (config.threshold, config.rings, config.min_good_users, config.error_budget)
        self.assertEqual(told + (config.batch_size, config.cache_size), (8, (16,), 0, 1, 1, 8))
        config = Config(members=("cid",), threshold=3, rings=(2, 16), min_good_users=4, error_budget=5, batch_size=6,
                        cache_size=7)
        told = (config.members, config.threshold, config.rings, config.min_good_users, config.error_budget)
        self.assertEqual(told + (config.batch_size, config.cache_size), (("cid",), 3, (2, 16), 4, 5, 6, 7))

    def test_only_members_are_passed_by_position(self):
        with self.assertRaises(TypeError):
            Config(("ann",), 8)

    def test_each_field_invalid_alone(self):
        for name, invalid, _ in FIELDS:
            for value in invalid:
                self.check_invalid({name: value}, name)

    def test_values_that_are_just_valid(self):
        for name, _, valid in FIELDS:
            for value in valid:
                self.assertEqual(getattr(made(**{name: value}), name), value)

    def test_two_fields_at_once(self):
        for number, (name, invalid, _) in enumerate(FIELDS):
            for other, also_invalid, _ in FIELDS[number + 1:]:
                self.check_invalid({other: also_invalid[0], name: invalid[0]}, name)

    def test_all_fields_at_once(self):
        self.check_invalid({name: invalid[-1] for name, invalid, _ in FIELDS}, "members")
        self.check_invalid({name: invalid[-1] for name, invalid, _ in FIELDS[1:]}, "threshold")


if __name__ == "__main__":
    unittest.main()
