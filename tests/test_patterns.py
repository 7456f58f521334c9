"""Patterns: points 26 to 29."""

import re
import unittest

from shiptrace.patterns import common_match, deciding, matches, tokens_of
from support import strings_over


def slow_tokens(pattern):
    return tuple(re.findall(r"\*\*|.", pattern))


def as_expression(pattern):
    """Return a regular expression for a pattern, for small patterns only."""
    parts = {"*": "[^/]*", "**": ".*"}
    return re.compile("".join([parts.get(token, re.escape(token)) for token in slow_tokens(pattern)]))


class TokensTest(unittest.TestCase):

    def test_signs(self):
        self.assertEqual(tokens_of("file:a-b.c/0"), tuple("file:a-b.c/0"))

    def test_stars_in_rows(self):
        self.assertEqual(tokens_of("*"), ("*",))
        self.assertEqual(tokens_of("**"), ("**",))
        self.assertEqual(tokens_of("***"), ("**", "*"))
        self.assertEqual(tokens_of("****"), ("**", "**"))
        self.assertEqual(tokens_of("*****"), ("**", "**", "*"))

    def test_stars_between_signs(self):
        self.assertEqual(tokens_of("a*b**c***"), ("a", "*", "b", "**", "c", "**", "*"))
        self.assertEqual(tokens_of("*a*"), ("*", "a", "*"))
        self.assertEqual(tokens_of(pattern="*:"), ("*", ":"))

    def test_all_small_patterns(self):
        for pattern in strings_over("a/*", 6)[1:]:
            self.assertEqual(tokens_of(pattern), slow_tokens(pattern))


class MatchesTest(unittest.TestCase):

    def test_signs_alone(self):
        self.assertIs(matches("a:b", "a:b"), True)
        self.assertIs(matches("a:b", "a:"), False)
        self.assertIs(matches("a", "aa"), False)
        self.assertIs(matches("a", ""), False)
        self.assertIs(matches("a", "A"), False)

    def test_a_dot_is_a_sign(self):
        self.assertIs(matches("a.b", "a.b"), True)
        self.assertIs(matches("a.b", "axb"), False)
        self.assertIs(matches("a-z", "b"), False)

    def test_one_star_stops_at_a_slash(self):
        self.assertIs(matches("a*b", "ab"), True)
        self.assertIs(matches("a*b", "axyb"), True)
        self.assertIs(matches("a*b", "a/b"), False)
        self.assertIs(matches("*", ""), True)
        self.assertIs(matches("*", "/"), False)

    def test_two_stars_go_beyond_a_slash(self):
        self.assertIs(matches("a**b", "a/b"), True)
        self.assertIs(matches("a**b", "ab"), True)
        self.assertIs(matches("**", "/a//b"), True)
        self.assertIs(matches("**", ""), True)

    def test_three_stars(self):
        self.assertIs(matches("***", "a/b"), True)
        self.assertIs(matches("a***b", "a/x/b"), True)
        self.assertIs(matches("*/*", "a/b"), True)
        self.assertIs(matches("*/*", "a/b/c"), False)

    def test_stars_take_any_signs(self):
        self.assertIs(matches("*", " !\"#$&'()*+,-.0:;<=>?@A[]^_`{|}~"), True)
        self.assertIs(matches("a*b", "a**b"), True)
        self.assertIs(matches("file:*", "file:x.txt"), True)
        self.assertIs(matches(pattern="*:", string="owners:"), True)

    def test_all_small_patterns(self):
        strings = strings_over("ab/*", 4)
        for pattern in strings_over("ab/*", 4)[1:]:
            expression = as_expression(pattern)
            for string in strings:
                expected = expression.fullmatch(string) is not None
                self.assertIs(matches(pattern, string), expected, (pattern, string))

    def test_nearly_all_stars(self):
        long = "a" * 200
        self.assertIs(matches("*a" * 12, long), True)
        self.assertIs(matches("*a" * 11 + "*b", long), False)
        self.assertIs(matches("**a" * 8, long), True)
        self.assertIs(matches("**a" * 7 + "**b", long), False)
        self.assertIs(matches("a*" * 12, long + "/"), False)
        self.assertIs(matches("a**" * 8, long + "/"), True)
        self.assertIs(matches("*" * 24, long + "/"), True)
        self.assertIs(matches("*" * 23 + "b", long), False)
        self.assertIs(matches("b" + "*" * 23, long), False)
        self.assertIs(matches("*a" * 12, "a" * 12), True)
        self.assertIs(matches("*a" * 12, "a" * 11), False)


class DecidingTest(unittest.TestCase):

    def test_no_pattern(self):
        self.assertIsNone(deciding((), "a"))
        self.assertIsNone(deciding((), ""))

    def test_the_last_one_decides(self):
        self.assertEqual(deciding(("**", "*a*", "a*"), "ba"), 1)
        self.assertEqual(deciding(("**", "*a*", "a*"), "ab"), 2)
        self.assertEqual(deciding(("**", "*a*", "a*"), "b"), 0)

    def test_the_first_number_is_zero(self):
        result = deciding(("a",), "a")
        self.assertEqual(result, 0)
        self.assertIs(type(result), int)

    def test_none_matches(self):
        self.assertIsNone(deciding(("*a*", "a*"), "b"))

    def test_equal_patterns(self):
        self.assertEqual(deciding(("a", "b", "a", "b"), "a"), 2)
        self.assertEqual(deciding(patterns=("a", "a", "a"), string="a"), 2)


class CommonMatchTest(unittest.TestCase):

    def test_ordinary(self):
        self.assertEqual(common_match("a*c", "**bc"), "abc")
        self.assertEqual(common_match("a", "a"), "a")
        self.assertEqual(common_match(first="a*", second="*b"), "ab")

    def test_none(self):
        self.assertIsNone(common_match("a", "*b"))
        self.assertIsNone(common_match("a", "b"))
        self.assertIsNone(common_match("*", "a/b"))
        self.assertIsNone(common_match("a*b", "a/**"))

    def test_the_empty_string(self):
        self.assertEqual(common_match("*", "**"), "")
        self.assertEqual(common_match("***", "*"), "")

    def test_shorter_comes_first(self):
        self.assertEqual(common_match("*b*", "b**"), "b")
        self.assertEqual(common_match("**aa", "*"), "aa")

    def test_then_the_order_of_strings(self):
        self.assertEqual(common_match("*a*b*", "*b*a*"), "aba")
        self.assertEqual(common_match("*b*", "*a*"), "ab")
        self.assertEqual(common_match("**:**", "**/**"), "/:")
        self.assertEqual(common_match("**b**", "**.**"), ".b")
        self.assertEqual(common_match("*z*0*", "*-*9*"), "-9z0")

    def test_slashes(self):
        self.assertEqual(common_match("a*", "a**/"), None)
        self.assertEqual(common_match("a**", "*/"), "a/")
        self.assertEqual(common_match("*/*", "a**b"), "a/b")

    def test_all_small_patterns(self):
        strings = strings_over("-/ab", 6)
        patterns = strings_over("ab/*", 3)[1:]
        known = {}
        for pattern in patterns:
            expression = as_expression(pattern)
            known[pattern] = [k for k in range(len(strings)) if expression.fullmatch(strings[k])]
        for first in patterns:
            members = set(known[first])
            for second in patterns:
                number = next((k for k in known[second] if k in members), None)
                expected = None if number is None else strings[number]
                self.assertEqual(common_match(first, second), expected, (first, second))

    def test_many_stars(self):
        self.assertEqual(common_match("a*" * 12, "*b" * 12), "a" * 12 + "b" * 12)
        self.assertIsNone(common_match("*a" * 12, "*b" * 12))
        self.assertEqual(common_match("*a" * 12, "**a" * 8), "a" * 12)
        self.assertEqual(common_match("*" * 24, "*" * 23), "")
        self.assertEqual(common_match("*a*b" * 6, "*b*a" * 5 + "**b"), "ab" * 6)
        self.assertIsNone(common_match("*" * 22 + "ab", "*" * 22 + "ba"))
        self.assertEqual(common_match("*a*b" * 6, "**b*a" * 4 + "**"), "ab" * 6)


if __name__ == "__main__":
    unittest.main()
