"""Conditions: points 160 to 163."""

import random
import unittest

from reference_flags import (
    ALWAYS, FLAGS, NEVER, random_condition, slow_assignments, slow_canonical, slow_difference, slow_fix,
    slow_flags_of, slow_holds, slow_relevant,
)
from shiptrace.conditions import (
    canonical_condition, first_difference, fix_in_condition, flags_of, holds, relevant_flags,
)
from shiptrace.errors import TooManyFlags
from support import is_plain

A, B, C, D, E, F = [("flag", name) for name in FLAGS]
ALL_BUT_LAST = ("or", E, ("or", D, ("or", C, ("or", B, A))))
ALL = ("or", F, ALL_BUT_LAST)


def negated(condition):
    return ("not", condition)


def nested(depth, condition):
    """Nest a condition so that the whole is nested this deep."""
    for _ in range(depth - 1):
        condition = negated(condition)
    return condition


class HoldsTest(unittest.TestCase):

    def check(self, condition, on, expected):
        self.assertIs(holds(condition, on), expected, (condition, on))
        self.assertIs(slow_holds(condition, on), expected, (condition, on))

    def test_always_and_never(self):
        for on in ((), ("a",), ("always",)):
            self.check(ALWAYS, on, True)
            self.check(NEVER, on, False)

    def test_a_flag(self):
        self.check(A, ("a",), True)
        self.check(A, ("b", "a"), True)
        self.check(A, ("b",), False)
        self.check(A, (), False)
        self.check(A, ("ab",), False)

    def test_not_and_or(self):
        self.check(negated(A), (), True)
        self.check(negated(A), ("a",), False)
        for on in slow_assignments(("a", "b")):
            self.check(("and", A, B), on, on == ("a", "b"))
            self.check(("or", A, B), on, on != ())
            self.check(("and", negated(A), B), on, on == ("b",))
            self.check(("or", A, negated(B)), on, on != ("b",))

    def test_a_flag_that_is_not_mentioned(self):
        self.check(("and", A, negated(B)), ("a", "z"), True)
        self.check(negated(ALWAYS), ("z",), False)
        self.check(("or", NEVER, NEVER), ("z",), False)

    def test_deep_conditions(self):
        self.check(nested(12, A), ("a",), False)
        self.check(nested(12, A), (), True)
        self.check(nested(13, A), ("a",), True)
        condition = A
        for number in range(11):
            condition = ("or" if number % 2 else "and", condition, (B, C)[number % 2])
        self.check(condition, ("a", "b"), True)
        self.check(condition, ("c",), False)
        self.check(condition, ("c", "b"), True)

    def test_keywords(self):
        self.assertIs(holds(condition=A, on=("a",)), True)


class FlagsOfTest(unittest.TestCase):

    def check(self, condition, flags):
        self.assertEqual(flags_of(condition), flags)
        self.assertEqual(slow_flags_of(condition), flags)

    def test_in_the_order_of_the_first_mention(self):
        self.check(("or", B, ("and", A, ("or", B, C))), ("b", "a", "c"))
        self.check(("and", ("not", C), ("or", B, ("not", ("and", C, A)))), ("c", "b", "a"))
        self.check(A, ("a",))
        self.check(ALL, ("f", "e", "d", "c", "b", "a"))

    def test_no_flags(self):
        self.check(ALWAYS, ())
        self.check(("and", NEVER, negated(ALWAYS)), ())
        self.assertEqual(flags_of(condition=ALWAYS), ())

    def test_names_of_flags_that_are_words(self):
        self.assertEqual(flags_of(("and", ("flag", "not"), ("flag", "flag"))), ("not", "flag"))

    def test_deep_conditions(self):
        self.check(nested(12, A), ("a",))
        self.check(nested(12, ("and", B, A)), ("b", "a"))


class FirstDifferenceTest(unittest.TestCase):

    def check(self, first, second, expected):
        self.assertEqual(first_difference(first, second), expected)
        self.assertEqual(slow_difference(first, second), expected)

    def test_no_flags_at_all(self):
        self.check(ALWAYS, NEVER, ())
        self.check(NEVER, negated(NEVER), ())
        self.check(ALWAYS, negated(NEVER), None)
        self.check(NEVER, NEVER, None)

    def test_no_difference(self):
        self.check(A, negated(negated(A)), None)
        self.check(negated(("and", A, B)), ("or", negated(B), negated(A)), None)

    def test_the_first_flag_is_the_most_significant_digit(self):
        self.check(("or", A, B), NEVER, ("b",))
        self.check(("or", B, A), NEVER, ("a",))
        self.check(("and", ("or", A, B), ("or", A, C)), NEVER, ("b", "c"))
        self.check(("and", A, ("or", B, C)), NEVER, ("a", "c"))
        self.check(("or", ("and", A, ("and", B, C)), C), C, None)

    def test_the_flags_of_both_in_the_order_of_the_first_mention(self):
        self.check(A, B, ("b",))
        self.check(B, A, ("a",))
        self.check(("and", C, ALWAYS), ("or", A, ("and", C, C)), ("a",))
        self.check(("and", B, A), ("and", A, ("and", B, C)), ("b", "a"))

    def test_the_first_of_several_differences(self):
        self.check(negated(A), A, ())
        self.check(negated(("and", A, B)), NEVER, ())
        self.check(("and", A, B), ("or", A, B), ("b",))

    def test_the_order_of_the_flags_that_are_on(self):
        self.check(("and", C, ("and", A, B)), NEVER, ("c", "a", "b"))

    def test_five_and_six_flags(self):
        self.check(ALL_BUT_LAST, NEVER, ("a",))
        self.check(NEVER, ALL_BUT_LAST, ("a",))
        self.check(("or", A, ("or", B, C)), ("or", D, ("or", E, A)), ("e",))
        for first, second in ((ALL, NEVER), (NEVER, ALL), (ALL, ALL), (ALL_BUT_LAST, F), (F, ALL_BUT_LAST)):
            with self.assertRaises(TooManyFlags) as caught:
                first_difference(first, second)
            self.assertEqual(caught.exception.count, 6)
            self.assertIs(type(caught.exception.count), int)

    def test_the_number_of_different_flags(self):
        many = ALWAYS
        for number in range(9):
            many = ("and", many, ("or", ("flag", "x%d" % number), ("flag", "x%d" % (number // 2))))
        with self.assertRaises(TooManyFlags) as caught:
            first_difference(many, ALL)
        self.assertEqual(caught.exception.count, 15)
        self.check(("and", ALL_BUT_LAST, ALL_BUT_LAST), ALL_BUT_LAST, None)

    def test_keywords(self):
        self.assertEqual(first_difference(first=A, second=NEVER), ("a",))


class FixTest(unittest.TestCase):

    def check(self, condition, flag, value, expected):
        self.assertEqual(fix_in_condition(condition, flag, value), expected)
        self.assertEqual(slow_fix(condition, flag, value), expected)

    def test_always_never_and_flags(self):
        for value in (True, False):
            self.check(ALWAYS, "a", value, ALWAYS)
            self.check(NEVER, "a", value, NEVER)
            self.check(B, "a", value, B)
        self.check(A, "a", True, ALWAYS)
        self.check(A, "a", False, NEVER)

    def test_not(self):
        self.check(negated(A), "a", True, NEVER)
        self.check(negated(A), "a", False, ALWAYS)
        self.check(negated(B), "a", True, negated(B))
        self.check(negated(("and", B, C)), "a", True, negated(("and", B, C)))

    def test_not_of_a_not(self):
        self.check(negated(negated(B)), "a", True, B)
        self.check(negated(negated(negated(B))), "a", True, negated(B))
        self.check(negated(negated(A)), "a", False, NEVER)
        self.check(negated(("and", A, negated(B))), "a", True, B)
        self.check(nested(12, B), "a", False, negated(B))
        self.check(nested(13, ("or", B, C)), "a", False, ("or", B, C))

    def test_and(self):
        self.check(("and", A, B), "a", True, B)
        self.check(("and", B, A), "a", True, B)
        self.check(("and", A, B), "a", False, NEVER)
        self.check(("and", B, A), "a", False, NEVER)
        self.check(("and", B, C), "a", True, ("and", B, C))

    def test_or(self):
        self.check(("or", A, B), "a", False, B)
        self.check(("or", B, A), "a", False, B)
        self.check(("or", A, B), "a", True, ALWAYS)
        self.check(("or", B, A), "a", True, ALWAYS)
        self.check(("or", B, C), "a", False, ("or", B, C))

    def test_two_results_at_once(self):
        for c in (ALWAYS, NEVER):
            for d in (ALWAYS, NEVER):
                self.check(("and", c, d), "a", True, ALWAYS if c == d == ALWAYS else NEVER)
                self.check(("or", c, d), "a", True, NEVER if c == d == NEVER else ALWAYS)

    def test_parts_in_which_the_flag_does_not_stand(self):
        self.check(("or", negated(negated(B)), ("and", A, C)), "a", True, ("or", B, C))
        self.check(("and", ("and", B, ALWAYS), ("or", NEVER, negated(ALWAYS))), "a", True, NEVER)
        self.check(("or", ("or", NEVER, C), ("and", ALWAYS, B)), "a", False, ("or", C, B))

    def test_equal_parts_stay(self):
        self.check(("and", B, B), "a", True, ("and", B, B))
        self.check(("or", B, negated(B)), "a", True, ("or", B, negated(B)))

    def test_a_flag_that_stands_nowhere(self):
        self.check(("and", negated(negated(A)), ("or", B, NEVER)), "z", True, ("and", A, B))
        self.check(("and", A, B), "z", False, ("and", A, B))

    def test_more_than_five_flags(self):
        self.check(ALL, "a", False, ("or", F, ("or", E, ("or", D, ("or", C, B)))))

    def test_keywords(self):
        self.assertEqual(fix_in_condition(condition=A, flag="a", value=True), ALWAYS)


class CanonicalTest(unittest.TestCase):

    def check(self, condition, relevant, canonical):
        self.assertEqual(relevant_flags(condition), relevant)
        self.assertEqual(slow_relevant(condition), relevant)
        self.assertEqual(canonical_condition(condition), canonical)
        self.assertEqual(slow_canonical(condition), canonical)

    def test_no_relevant_flag(self):
        self.check(ALWAYS, (), ALWAYS)
        self.check(NEVER, (), NEVER)
        self.check(("or", A, negated(A)), (), ALWAYS)
        self.check(("and", ("and", B, A), negated(B)), (), NEVER)
        self.check(negated(NEVER), (), ALWAYS)

    def test_a_flag_that_is_mentioned_and_not_relevant(self):
        self.check(("or", A, ("and", A, B)), ("a",), A)
        self.check(("and", ("or", B, negated(B)), A), ("a",), A)
        self.check(("and", ("or", A, negated(A)), B), ("b",), B)

    def test_one_relevant_flag(self):
        self.check(A, ("a",), A)
        self.check(negated(A), ("a",), negated(A))
        self.check(nested(12, A), ("a",), negated(A))

    def test_two_relevant_flags(self):
        self.check(("or", A, B), ("a", "b"), ("or", A, ("and", negated(A), B)))
        self.check(("or", B, A), ("a", "b"), ("or", A, ("and", negated(A), B)))
        self.check(("and", B, A), ("a", "b"), ("and", A, B))
        self.check(negated(("or", B, A)), ("a", "b"), ("and", negated(A), negated(B)))
        same = ("or", ("and", A, B), ("and", negated(A), negated(B)))
        self.check(("or", ("and", negated(B), negated(A)), ("and", B, A)), ("a", "b"), same)
        self.check(("and", A, negated(B)), ("a", "b"), ("and", A, negated(B)))

    def test_ascending_order_and_not_the_order_of_mention(self):
        self.check(("and", C, ("and", B, A)), ("a", "b", "c"), ("and", A, ("and", B, C)))
        self.check(("or", C, ("or", A, B)), ("a", "b", "c"),
                   ("or", A, ("and", negated(A), ("or", B, ("and", negated(B), C)))))

    def test_a_flag_that_matters_only_when_another_one_is_on(self):
        self.check(("or", ("and", A, B), ("and", negated(A), C)), ("a", "b", "c"),
                   ("or", ("and", A, B), ("and", negated(A), C)))

    def test_five_and_six_flags(self):
        self.assertEqual(relevant_flags(ALL_BUT_LAST), ("a", "b", "c", "d", "e"))
        self.assertEqual(canonical_condition(ALL_BUT_LAST), slow_canonical(ALL_BUT_LAST))
        irrelevant = ("or", A, ("and", A, ALL))
        for condition in (ALL, irrelevant, ("and", NEVER, ALL)):
            for function in (relevant_flags, canonical_condition):
                with self.assertRaises(TooManyFlags) as caught:
                    function(condition)
                self.assertEqual(caught.exception.count, 6)

    def test_keywords(self):
        self.assertEqual(relevant_flags(condition=A), ("a",))
        self.assertEqual(canonical_condition(condition=A), A)


class RandomConditionsTest(unittest.TestCase):

    def test_against_slow_versions(self):
        rng = random.Random(160)
        for _ in range(1500):
            condition = random_condition(rng, 5)
            on = tuple([name for name in FLAGS if rng.randrange(2)])
            self.assertIs(holds(condition, on), slow_holds(condition, on))
            self.assertEqual(flags_of(condition), slow_flags_of(condition))
            flag, value = rng.choice(FLAGS), bool(rng.randrange(2))
            self.assertEqual(fix_in_condition(condition, flag, value), slow_fix(condition, flag, value))
            self.assertTrue(is_plain((flags_of(condition), fix_in_condition(condition, flag, value))))

    def test_few_flags_against_slow_versions(self):
        rng = random.Random(161)
        for _ in range(500):
            names = FLAGS[rng.randrange(5):5]
            condition, other = random_condition(rng, 5, names), random_condition(rng, 4, names)
            self.assertEqual(first_difference(condition, other), slow_difference(condition, other))
            self.assertEqual(relevant_flags(condition), slow_relevant(condition))
            canonical = canonical_condition(condition)
            self.assertEqual(canonical, slow_canonical(condition))
            self.assertEqual(canonical, canonical_condition(canonical))
            self.assertIsNone(first_difference(condition, canonical))
            self.assertTrue(is_plain((first_difference(condition, other), relevant_flags(condition), canonical)))


if __name__ == "__main__":
    unittest.main()
