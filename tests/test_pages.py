"""Pages: points 169 and 170, and fixing flags in parts (162)."""

import random
import unittest

from reference_flags import (
    ALWAYS, FLAGS, NEVER, random_flags, random_parts, slow_affected, slow_cycle_flag, slow_fix, slow_shown,
    slow_variants,
)
from shiptrace.errors import FlagCycle
from shiptrace.pages import affected_user, fix_flag, shown_parts, variants_of
from support import is_plain

A, B, C = [("flag", name) for name in "abc"]
PARTS = ((A, "x"), (ALWAYS, "y"), (("not", A), "x"), (("and", A, B), "z"))




class ShownTest(unittest.TestCase):

    def test_shown_parts(self):
        self.assertEqual(shown_parts(PARTS, ()), (1, 2))
        self.assertEqual(shown_parts(PARTS, ("a",)), (0, 1))
        self.assertEqual(shown_parts(PARTS, ("b", "a")), (0, 1, 3))
        self.assertEqual(shown_parts(PARTS, ("b", "z")), (1, 2))

    def test_no_parts(self):
        self.assertEqual(shown_parts((), ("a",)), ())
        self.assertEqual(shown_parts(((NEVER, "x"),), ()), ())
        self.assertEqual(shown_parts(parts=((ALWAYS, "x"),), on=()), (0,))
        self.assertTrue(is_plain(shown_parts(PARTS, ())))


class FixFlagTest(unittest.TestCase):

    def check(self, parts, flag, value, expected):
        self.assertEqual(fix_flag(parts, flag, value), expected)
        self.assertTrue(is_plain(expected))

    def test_parts_that_become_never_are_left_out(self):
        self.check(PARTS, "a", True, ((ALWAYS, "x"), (ALWAYS, "y"), (B, "z")))
        self.check(PARTS, "a", False, ((ALWAYS, "y"), (ALWAYS, "x")))
        self.check(((A, "x"), (("or", NEVER, A), "y")), "a", False, ())
        self.check((), "a", True, ())

    def test_parts_without_the_flag(self):
        self.check(((NEVER, "x"), (("not", ("not", B)), "y"), (C, "x")), "a", True, ((B, "y"), (C, "x")))
        self.check(((("not", ALWAYS), "x"), (B, "y")), "z", False, ((B, "y"),))
        self.assertEqual(fix_flag(parts=PARTS, flag="b", value=False), PARTS[:3])

    def test_equal_parts_stay(self):
        self.check(((B, "x"), (B, "x")), "a", True, ((B, "x"), (B, "x")))


class VariantsTest(unittest.TestCase):

    def check(self, flags, parts, variants):
        self.assertEqual(variants_of(flags, parts), variants)
        self.assertEqual(slow_variants(flags, parts), variants)
        self.assertTrue(is_plain(variants_of(flags, parts)))

    def test_no_parts(self):
        self.check((), (), (((), 16, ()),))
        flags = (("a", (("users", (5, 6), True),), False),)
        self.check(flags, (), (((), 16, (5, 6)),))
        self.check(flags, ((NEVER, "x"),), (((), 16, (5, 6)),))

    def test_no_flags(self):
        self.check((), PARTS, (((1, 2), 16, ()),))

    def test_a_variant_that_only_listed_users_are_shown(self):
        flags = (("a", (("users", (5, 6), True),), False),)
        self.check(flags, PARTS, (((0, 1), 0, (5, 6)), ((1, 2), 16, ())))

    def test_the_order_of_the_first_representative(self):
        flags = (("a", (("users", (9,), False), ("buckets", 0, 8, True)), False),)
        self.check(flags, PARTS, (((1, 2), 8, (9,)), ((0, 1), 8, ())))
        flags = (("a", (("buckets", 0, 8, True),), False), ("b", (("buckets", 0, 4, True),), False))
        self.check(flags, PARTS, (((0, 1, 3), 4, ()), ((1, 2), 8, ()), ((0, 1), 4, ())))

    def test_users_in_the_order_in_which_they_are_listed(self):
        flags = (
            ("a", (("users", (30, 20), True), ("users", (1, 2), False)), False),
            ("b", (("users", (2, 20, 10), True),), False),
        )
        variants = (((0, 1), 0, (30,)), ((0, 1, 3), 0, (20,)), ((1, 2), 16, (1, 2, 10)))
        self.check(flags, PARTS, variants)

    def test_a_representative_above_999(self):
        users = tuple(range(0, 1000, 16))
        clauses = tuple([("users", users[k:k + 8], False) for k in range(0, 63, 8)]) + (("buckets", 0, 1, True),)
        self.check((("a", clauses, False),), ((A, "x"),), (((), 15, users), ((0,), 1, ())))

    def test_a_flag_cycle(self):
        flags = (("a", (), True), ("b", (("when", C, True),), True), ("c", (("when", C, True),), True))
        with self.assertRaises(FlagCycle) as caught:
            variants_of(flags, ())
        self.assertEqual(caught.exception.flag, "b")
        self.assertEqual(variants_of(flags=(), parts=()), (((), 16, ()),))


class AffectedTest(unittest.TestCase):

    def check(self, flags, flag, parts, user):
        self.assertEqual(affected_user(flags, flag, parts), user)
        self.assertEqual(slow_affected(flags, flag, parts), user)

    def test_a_flag_that_is_not_set(self):
        self.check((), "a", ((A, "x"),), 0)
        self.check((), "b", ((A, "x"),), None)
        self.check((("b", (("users", (4,), True),), False),), "a", ((("and", A, B), "x"),), 4)
        self.check((("c", (("when", A, True),), False),), "a", ((C, "x"),), 0)

    def test_a_held_flag_whose_own_clauses_do_not_count(self):
        flags = (("a", (("users", (5, 6), True), ("buckets", 0, 16, False)), False),)
        self.check(flags, "a", ((A, "x"), (ALWAYS, "y")), 5)
        self.check((("a", (), True),), "a", ((A, "x"),), 0)

    def test_a_flag_on_which_other_flags_depend(self):
        flags = (("a", (), False), ("b", (("users", (7,), False), ("when", A, True)), False), ("c", (), True))
        self.check(flags, "a", ((B, "x"),), 0)
        self.check(flags, "a", ((("not", B), "x"), (C, "y")), 0)
        self.check(flags, "b", ((A, "x"),), None)
        flags = (("a", (), False), ("b", (("buckets", 0, 8, False), ("when", A, True)), False))
        self.check(flags, "a", ((B, "x"),), 1)

    def test_a_flag_that_depends_on_others(self):
        flags = (("a", (("when", B, True),), False), ("b", (("when", C, False),), True))
        self.check(flags, "a", ((("and", A, ("not", B)), "x"),), None)
        self.check(flags, "b", ((A, "x"),), 0)
        self.check(flags, "c", ((A, "x"),), 0)

    def test_the_same_targets_from_other_parts(self):
        self.check((), "a", ((A, "x"), (("not", A), "x")), None)
        self.check((), "a", ((A, "x"), (ALWAYS, "y"), (("not", A), "x")), 0)
        self.check((), "a", ((A, "x"), (A, "y"), (("not", A), "y"), (("not", A), "x")), 0)
        self.check((), "a", ((A, "x"), (ALWAYS, "x")), 0)

    def test_no_parts(self):
        self.check((("a", (), True),), "a", (), None)

    def test_the_first_representative(self):
        flags = (("b", (("users", (40, 3), True), ("buckets", 0, 1, True)), False),)
        self.check(flags, "a", ((("and", A, B), "x"),), 40)
        self.check(flags, "b", ((B, "x"),), 40)
        flags = (("b", (("users", (40, 3), False), ("buckets", 1, 1, True)), False),)
        self.check(flags, "a", ((("and", A, B), "x"),), 15)

    def test_the_users_of_the_held_flag_are_representatives(self):
        flags = (("a", (("users", (50,), True),), False), ("b", (("buckets", 2, 1, True),), False))
        self.check(flags, "a", ((("and", A, ("not", B)), "x"),), 50)
        users = tuple(range(14, 1000, 16))
        clauses = tuple([("users", users[k:k + 8], False) for k in range(0, 63, 8)])
        self.check((("a", clauses, True), ("b", (("buckets", 2, 1, True),), False)), "a", ((("and", A, B), "x"),), 14)

    def test_a_seventh_flag(self):
        flags = tuple([(name, (), True) for name in FLAGS])
        self.check(flags, "g", ((("and", ("flag", "g"), ("flag", "f")), "x"),), 0)

    def test_a_flag_cycle(self):
        cycle = ("a", (("when", A, True),), True)
        for flag in ("a", "b", "z"):
            with self.assertRaises(FlagCycle) as caught:
                affected_user((cycle, ("b", (), True)), flag, PARTS)
            self.assertEqual(caught.exception.flag, "a")
        self.assertIsNone(affected_user(flags=(), flag="a", parts=()))


class RandomPagesTest(unittest.TestCase):

    def test_against_slow_versions(self):
        rng = random.Random(169)
        affected = 0
        for _ in range(200):
            flags, parts = random_flags(rng), random_parts(rng)
            self.assertIsNone(slow_cycle_flag(flags))
            on = tuple([name for name in FLAGS if rng.randrange(2)])
            self.assertEqual(shown_parts(parts, on), slow_shown(parts, on))
            flag, value = rng.choice(FLAGS), bool(rng.randrange(2))
            fixed = [(slow_fix(condition, flag, value), target) for condition, target in parts]
            self.assertEqual(fix_flag(parts, flag, value), tuple([part for part in fixed if part[0] != NEVER]))
            self.assertEqual(variants_of(flags, parts), slow_variants(flags, parts))
            user = affected_user(flags, flag, parts)
            self.assertEqual(user, slow_affected(flags, flag, parts))
            affected += user is not None
        self.assertGreater(affected, 30)


if __name__ == "__main__":
    unittest.main()
