"""Flags: points 166 to 168."""

import random
import unittest

from reference_flags import (
    ALWAYS, FLAGS, NEVER, random_condition, random_flags, slow_cycle_flag, slow_enabled, slow_holds, slow_listed,
    slow_unlisted,
)
from shiptrace.errors import FlagCycle
from shiptrace.flags import (
    audience_of, distinguishing_user, enabled_flags, first_cyclic_flag, representatives_of, with_flag, without_flag,
)
from support import is_plain

A, B, C, D, E, F = [("flag", name) for name in FLAGS]
COHORTS = tuple(range(16))


def when(condition, value=True):
    return ("when", condition, value)


def mentions(name, *others):
    """Return a flag that mentions these others and is on if one of them is."""
    return (name, tuple([when(("flag", other)) for other in others]), False)


class EnabledTest(unittest.TestCase):

    def check(self, flags, expected):
        """Check who is shown which flags; `expected` tells them by user."""
        for user, names in expected.items():
            self.assertEqual(enabled_flags(flags, user), names, user)
            self.assertEqual(slow_enabled(flags, user), names, user)
            self.assertTrue(is_plain(enabled_flags(flags, user)))

    def test_no_flags_and_no_clauses(self):
        self.check((), {0: (), 999: ()})
        self.check((("a", (), False),), {0: ()})
        self.check((("a", (), True),), {0: ("a",), 5: ("a",)})

    def test_users(self):
        self.check((("a", (("users", (3, 5), True),), False),), {3: ("a",), 5: ("a",), 4: (), 19: ()})
        self.check((("a", (("users", (3, 5), False),), True),), {3: (), 5: (), 4: ("a",)})
        self.check((("a", (("users", (), True),), False),), {0: ()})

    def test_buckets(self):
        self.check((("a", (("buckets", 0, 8, True),), False),), {0: ("a",), 1: (), 2: ("a",), 16: ("a",)})
        self.check((("a", (("buckets", 1, 8, True),), False),), {0: (), 1: ("a",), 15: ("a",)})
        self.check((("a", (("buckets", 0, 0, True),), False),), {0: (), 1: ()})
        self.check((("a", (("buckets", 0, 16, True),), False),), {0: ("a",), 15: ("a",)})
        self.check((("a", (("buckets", 0, 9, True),), False),), {1: ("a",), 9: (), 8: ("a",)})
        self.check((("a", (("buckets", 0, 8, False),), True),), {0: (), 1: ("a",)})

    def test_conditions(self):
        on = ("b", (("users", (7,), True),), False)
        self.check((("a", (when(B),), False), on), {7: ("a", "b"), 8: ()})
        self.check((("a", (when(("not", B)),), False), on), {7: ("b",), 8: ("a",)})
        self.check((("a", (when(B, False),), True), on), {7: ("b",), 8: ("a",)})
        self.check((("a", (when(ALWAYS),), False),), {7: ("a",)})
        self.check((("a", (when(NEVER),), False),), {7: ()})

    def test_a_condition_that_mentions_a_flag_that_is_not_set(self):
        self.check((("a", (when(("flag", "z")),), False),), {0: ()})
        self.check((("b", (when(("not", A)),), False),), {0: ("b",)})

    def test_the_first_clause_that_matches(self):
        clauses = (("users", (1, 2), True), ("users", (2, 3), False), ("buckets", 0, 16, True))
        self.check((("a", clauses, False),), {1: ("a",), 2: ("a",), 3: (), 4: ("a",)})
        clauses = (("buckets", 0, 8, False), ("users", (0, 1), True), when(ALWAYS, False))
        self.check((("a", clauses, True),), {0: (), 1: ("a",), 3: ()})
        clauses = (when(B, False), ("users", (0,), True))
        self.check((("a", clauses, True), ("b", (("buckets", 0, 1, True),), False)), {0: ("b",), 1: ("a",)})

    def test_flags_that_depend_on_later_and_earlier_ones(self):
        flags = (mentions("a", "c"), mentions("b", "a"), ("c", (("users", (4,), True),), False))
        self.check(flags, {4: ("a", "b", "c"), 5: ()})
        flags = (("a", (when(("and", ("not", B), ("not", C))),), False), mentions("b", "c"),
                 ("c", (("users", (4,), True),), False))
        self.check(flags, {4: ("b", "c"), 5: ("a",)})

    def test_six_flags_in_ascending_order(self):
        names = FLAGS
        flags = tuple([mentions(name, *names[number + 1:]) for number, name in enumerate(names)])
        flags = flags[:5] + (("f", (), True),)
        self.check(flags, {0: names})

    def test_users_above_999(self):
        flags = (("a", (("users", (999,), True), ("buckets", 2, 1, True)), False),)
        self.check(flags, {1000: (), 1001: (), 1006: ("a",), 1022: ("a",)})
        self.assertEqual(enabled_flags(flags=flags, user=999), ("a",))


class CycleTest(unittest.TestCase):

    def check(self, flags, name):
        self.assertEqual(first_cyclic_flag(flags), name)
        self.assertEqual(slow_cycle_flag(flags), name)
        calls = (
            lambda: enabled_flags(flags, 0),
            lambda: distinguishing_user(flags, ALWAYS, NEVER),
            lambda: audience_of(flags, NEVER),
        )
        for call in calls:
            if name is None:
                call()
                continue
            with self.assertRaises(FlagCycle) as caught:
                call()
            self.assertEqual(caught.exception.flag, name)

    def test_no_cycle(self):
        self.check((), None)
        self.check((mentions("a", "b"), mentions("b", "c"), mentions("c")), None)
        self.check((mentions("a", "b", "c"), mentions("b", "d"), mentions("c", "d"), mentions("d")), None)

    def test_a_flag_that_mentions_itself(self):
        self.check((mentions("a", "a"),), "a")
        self.check((mentions("a"), mentions("b", "a", "b")), "b")

    def test_a_clause_that_is_never_reached(self):
        self.check((("a", (when(ALWAYS), when(("and", NEVER, A))), False),), "a")

    def test_a_flag_that_leads_into_a_cycle(self):
        self.check((mentions("a", "b"), mentions("b", "c"), mentions("c", "b")), "a")
        self.check((mentions("a"), mentions("b", "a", "c"), mentions("c", "d"), mentions("d", "d")), "b")

    def test_a_cycle_among_flags_that_come_later(self):
        self.check((mentions("a"), mentions("b", "a"), mentions("c", "d", "a"), mentions("d", "c")), "c")

    def test_a_cycle_of_six(self):
        self.check(tuple([mentions(name, other) for name, other in zip(FLAGS, FLAGS[1:] + FLAGS[:1])]), "a")

    def test_flags_that_are_not_set_make_no_cycle(self):
        self.check((mentions("a", "z"), mentions("b", "y", "a")), None)
        self.check((mentions("b", "a"), mentions("c", "z", "b")), None)

    def test_clauses_of_other_kinds_make_no_cycle(self):
        self.check((("a", (("users", (1,), True), ("buckets", 0, 3, True)), True),), None)


class RepresentativesTest(unittest.TestCase):

    def check(self, flags, users):
        self.assertEqual(representatives_of(flags), users)
        self.assertEqual(slow_listed(flags) + slow_unlisted(flags), users)
        self.assertTrue(is_plain(users))

    def test_no_listed_users(self):
        self.check((), COHORTS)
        self.check((("a", (("buckets", 3, 2, True), when(ALWAYS)), True),), COHORTS)

    def test_a_user_in_several_clauses(self):
        clauses = (("users", (20, 3, 20), True), ("buckets", 0, 1, True), ("users", (3, 40), False))
        flags = (("a", clauses, False), ("b", (("users", (40, 7, 20), True),), False))
        self.check(flags, (20, 3, 40, 7, 0, 1, 2, 19, 4, 5, 6, 23) + COHORTS[8:])

    def test_a_listed_user_is_not_the_least_of_the_cohort(self):
        self.check((("a", (("users", (16, 17, 1), True),), False),), (16, 17, 1, 0, 33) + COHORTS[2:])

    def test_a_cohort_of_which_all_users_are_listed(self):
        users = list(range(5, 1000, 16))
        flags = []
        for name in ("a", "b"):
            clauses = tuple([("users", tuple(users[k:k + 8]), True) for k in range(0, 48, 8)])
            flags.append((name, clauses, False))
            users = users[48:]
        listed = tuple(range(5, 1000, 16))
        self.assertEqual(len(listed), 63)
        self.assertEqual(listed[-1], 997)
        self.check(tuple(flags), listed + COHORTS[:5] + (1013,) + COHORTS[6:])
        self.assertEqual(enabled_flags(tuple(flags), 1013), ())
        self.assertEqual(enabled_flags(tuple(flags), 997), ("b",))

    def test_a_flag_cycle(self):
        flags = (("a", (when(A), ("users", (2,), True)), False),)
        self.check(flags, (2, 0, 1, 18) + COHORTS[3:])
        self.assertEqual(representatives_of(flags=flags)[0], 2)


class AudienceTest(unittest.TestCase):

    FLAGS = (("a", (("users", (7,), False), ("buckets", 0, 8, True)), False), ("b", (when(("not", A)),), False))

    def test_distinguishing_users(self):
        self.assertEqual(distinguishing_user(self.FLAGS, A, B), 7)
        self.assertEqual(distinguishing_user(self.FLAGS, A, ALWAYS), 7)
        self.assertEqual(distinguishing_user(self.FLAGS, A, NEVER), 0)
        self.assertEqual(distinguishing_user(self.FLAGS, NEVER, A), 0)
        self.assertEqual(distinguishing_user(self.FLAGS, B, NEVER), 7)
        self.assertIsNone(distinguishing_user(self.FLAGS, A, ("not", B)))
        self.assertIsNone(distinguishing_user((), A, NEVER))
        self.assertEqual(distinguishing_user((), ALWAYS, NEVER), 0)

    def test_a_distinguishing_user_above_999(self):
        users = tuple(range(0, 1000, 16))
        clauses = tuple([("users", users[k:k + 8], False) for k in range(0, 63, 8)]) + (("buckets", 0, 1, True),)
        self.assertEqual(distinguishing_user((("a", clauses, False),), A, NEVER), 1008)

    def test_audiences(self):
        self.assertEqual(audience_of(self.FLAGS, A), 8)
        self.assertEqual(audience_of(self.FLAGS, B), 8)
        self.assertEqual(audience_of(self.FLAGS, ALWAYS), 16)
        self.assertEqual(audience_of(self.FLAGS, NEVER), 0)
        self.assertEqual(audience_of((("a", (("users", (0, 1, 2), True),), False),), A), 0)
        self.assertEqual(audience_of((("a", (("buckets", 3, 5, True),), False),), ("not", A)), 11)
        self.assertIs(type(audience_of((), ALWAYS)), int)

    def test_conditions_with_many_flags(self):
        condition = ("or", A, ("or", B, ("or", C, ("or", D, ("or", E, ("or", F, ("flag", "g")))))))
        self.assertEqual(audience_of(self.FLAGS, condition), 16)
        self.assertEqual(distinguishing_user(self.FLAGS, condition, ALWAYS), None)

    def test_keywords(self):
        self.assertEqual(audience_of(flags=self.FLAGS, condition=A), 8)
        self.assertEqual(distinguishing_user(flags=self.FLAGS, first=A, second=B), 7)
        self.assertIsNone(first_cyclic_flag(flags=self.FLAGS))


class WithFlagTest(unittest.TestCase):

    def test_with_and_without_a_flag(self):
        a, b, c, other = ("a", (), True), ("b", (), True), ("c", (), True), ("b", (when(A),), False)
        self.assertEqual(with_flag((), a), (a,))
        self.assertEqual(with_flag((a, c), b), (a, b, c))
        self.assertEqual(with_flag((b, c), a), (a, b, c))
        self.assertEqual(with_flag((a, b, c), other), (a, other, c))
        self.assertEqual(without_flag((a, b, c), "b"), (a, c))
        self.assertEqual(without_flag((a, c), "b"), (a, c))


class RandomFlagsTest(unittest.TestCase):

    def test_against_slow_versions(self):
        rng = random.Random(166)
        cyclic = 0
        for _ in range(400):
            flags = random_flags(rng, acyclic=False)
            name = slow_cycle_flag(flags)
            self.assertEqual(first_cyclic_flag(flags), name)
            self.assertEqual(representatives_of(flags), slow_listed(flags) + slow_unlisted(flags))
            first, second = random_condition(rng, 3), random_condition(rng, 3)
            if name is not None:
                cyclic += 1
                with self.assertRaises(FlagCycle) as caught:
                    enabled_flags(flags, 3)
                self.assertEqual(caught.exception.flag, name)
                continue
            for user in (0, 1, 5, 17, 999, 1005):
                self.assertEqual(enabled_flags(flags, user), slow_enabled(flags, user))
            users = slow_listed(flags) + slow_unlisted(flags)
            on = {user: slow_enabled(flags, user) for user in users}
            found = [user for user in users if slow_holds(first, on[user]) != slow_holds(second, on[user])]
            self.assertEqual(distinguishing_user(flags, first, second), found[0] if found else None)
            audience = [user for user in slow_unlisted(flags) if slow_holds(first, on[user])]
            self.assertEqual(audience_of(flags, first), len(audience))
        self.assertGreater(cyclic, 50)
        self.assertLess(cyclic, 350)


if __name__ == "__main__":
    unittest.main()
