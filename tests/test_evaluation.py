"""Evaluation: points 80 and 81."""

import random
import unittest

from reference import random_environment, random_expression, slow_evaluate
from shiptrace.evaluation import evaluate
from support import is_plain, literal, stamped

FILES = (
    ("a", stamped("xyz", 1)),
    ("a/1", stamped("", 2)),
    ("a/2", stamped("q", 3)),
    ("b", stamped("y", 4)),
    ("e", ()),
    ("long", stamped("l" * 121, 5)),
    ("most", stamped("m" * 120, 6)),
)
TARGETS = (
    ("bad", ("error", ("cycle", "w"))),
    ("none", ("text", ())),
    ("t", ("text", stamped("yz", 7))),
)
ENVIRONMENT = (FILES, TARGETS, (0, 1, 0))

A = ("file", "a")
B = ("file", "b")
E = ("file", "e")
T = ("target", "t")
READ_A = ("file", "a", 3)
READ_B = ("file", "b", 1)
READ_E = ("file", "e", 0)

ERRORS = (
    (("file", "m"), ("missing file", "m"), (("missing", "m"),)),
    (("target", "m"), ("missing target", "m"), (("failed", "m", ("missing target", "m")),)),
    (("target", "bad"), ("cycle", "w"), (("failed", "bad", ("cycle", "w")),)),
    (("file", "long"), ("too long",), (("file", "long", 121),)),
)


def chars(text):
    return tuple([("char", character) for character in text])


class EvaluationTest(unittest.TestCase):

    def check(self, expression, text, reads, environment=ENVIRONMENT):
        expected = (("text", text), reads)
        self.assertEqual(evaluate(expression, environment), expected)
        self.assertEqual(slow_evaluate(expression, environment), expected)
        self.assertTrue(is_plain(evaluate(expression, environment)))

    def check_error(self, expression, error, reads, environment=ENVIRONMENT):
        expected = (("error", error), reads)
        self.assertEqual(evaluate(expression, environment), expected)
        self.assertEqual(slow_evaluate(expression, environment), expected)
        self.assertTrue(is_plain(evaluate(expression, environment)))


class FormsTest(EvaluationTest):

    def test_literal(self):
        self.check(literal("ab", 9, 4), stamped("ab", 9, 4), ())
        self.check(literal(""), (), ())
        self.assertEqual(evaluate(expression=literal("a"), environment=((), (), (0, 0, 0)))[1], ())

    def test_file(self):
        self.check(A, stamped("xyz", 1), (READ_A,))
        self.check(E, (), (READ_E,))
        self.check_error(("file", "m"), ("missing file", "m"), (("missing", "m"),))

    def test_optional_file(self):
        self.check(("optional file", "a"), stamped("xyz", 1), (READ_A,))
        self.check(("optional file", "m"), (), (("missing", "m"),))

    def test_target(self):
        self.check(T, stamped("yz", 7), (("target", "t", 2),))
        self.check(("target", "none"), (), (("target", "none", 0),))
        for part, error, reads in ERRORS[1:3]:
            self.check_error(part, error, reads)

    def test_concat(self):
        self.check(("concat", A, T), stamped("xyz", 1) + stamped("yz", 7), (READ_A, ("target", "t", 2)))
        self.check(("concat", B, B), stamped("y", 4) * 2, (READ_B, READ_B))

    def test_slice(self):
        for start, end, text in (
            (0, 2, stamped("xy", 1)), (1, 2, stamped("y", 1, 1)), (2, 9, stamped("z", 1, 2)), (3, 9, ()),
            (0, 0, ()), (2, 1, ()), (7, 9, ()), (0, 3, stamped("xyz", 1)), (1, 10 ** 21, stamped("yz", 1, 1)),
        ):
            self.check(("slice", A, start, end), text, (READ_A,))

    def test_searching_for_what_occurs(self):
        reads = (READ_A, READ_B) + chars(stamped("y", 4) + stamped("xy", 1))
        self.check(("find", A, B), stamped("y", 1, 1), reads)
        self.check(("after", A, B), stamped("z", 1, 2), reads)
        self.check(("before", A, B), stamped("x", 1), reads)

    def test_searching_for_what_does_not_occur(self):
        wanted = stamped("yx", 8)
        reads = (READ_A,) + chars(wanted + stamped("xyz", 1))
        self.check(("find", A, ("literal", wanted)), (), reads)
        self.check(("after", A, ("literal", wanted)), (), reads)
        self.check(("before", A, ("literal", wanted)), stamped("xyz", 1), reads)

    def test_searching_for_the_empty_text(self):
        self.check(("find", A, E), (), (READ_A, READ_E))
        self.check(("after", A, E), stamped("xyz", 1), (READ_A, READ_E))
        self.check(("before", A, E), (), (READ_A, READ_E))

    def test_searching_reads_with_repetitions(self):
        text = stamped("aa", 2)
        expression = ("find", ("literal", text + text), ("literal", text))
        self.check(expression, text, chars(text + text))

    def test_replace_all(self):
        text, wanted, new = stamped("abcab", 1), stamped("ab", 2), stamped("X", 3)
        expression = ("replace all", ("literal", text), ("literal", wanted), ("literal", new))
        self.check(expression, new + stamped("c", 1, 2) + new, chars(wanted + text))
        expression = ("replace all", A, B, T)
        result = stamped("x", 1) + stamped("yz", 7) + stamped("z", 1, 2)
        self.check(expression, result, (READ_A, READ_B, ("target", "t", 2)) + chars(stamped("y", 4) + stamped("xyz", 1)))

    def test_replacing_the_empty_text_or_by_it(self):
        self.check(("replace all", A, E, B), stamped("xyz", 1), (READ_A, READ_E, READ_B))
        reads = (READ_A, READ_B, READ_E) + chars(stamped("y", 4) + stamped("xyz", 1))
        self.check(("replace all", A, B, E), (("x", 1, 0), ("z", 1, 2)), reads)
        self.check(("replace all", E, B, A), (), (READ_E, READ_B, READ_A) + chars(stamped("y", 4)))

    def test_if_evaluates_one_branch(self):
        self.check(("if", A, B, ("file", "m")), stamped("y", 4), (READ_A, READ_B))
        self.check(("if", E, ("file", "m"), B), stamped("y", 4), (READ_E, READ_B))
        self.check_error(("if", E, B, ("file", "m")), ("missing file", "m"), (READ_E, ("missing", "m")))

    def test_concat_files(self):
        reads = (("list", "a", ("a", "a/1", "a/2")), READ_A, ("file", "a/1", 0), ("file", "a/2", 1))
        self.check(("concat files", "a"), stamped("xyz", 1) + stamped("q", 3), reads)
        self.check(("concat files", "a/"), stamped("q", 3), (("list", "a/", ("a/1", "a/2")),) + reads[2:])
        self.check(("concat files", "z"), (), (("list", "z", ()),))

    def test_concat_files_under_the_empty_prefix(self):
        environment = (FILES[:3], (), (0, 0, 0))
        reads = (("list", "", ("a", "a/1", "a/2")), READ_A, ("file", "a/1", 0), ("file", "a/2", 1))
        self.check(("concat files", ""), stamped("xyz", 1) + stamped("q", 3), reads, environment)
        self.check(("concat files", ""), (), (("list", "", ()),), ((), (), (0, 0, 0)))

    def test_dynamic_file(self):
        path = stamped("a/2", 9)
        reads = chars(path) + (("file", "a/2", 1),)
        self.check(("dynamic file", ("literal", path)), stamped("q", 3), reads)
        reads = (READ_B,) + chars(stamped("y", 4)) + (("missing", "y"),)
        self.check(("dynamic file", B), (), reads)

    def test_dynamic_file_with_any_string(self):
        self.check(("dynamic file", E), (), (READ_E, ("missing", "")))
        path = stamped("No name! ~", 9)
        self.check(("dynamic file", ("literal", path)), (), chars(path) + (("missing", "No name! ~"),))
        path = stamped("p" * 120, 9)
        self.check(("dynamic file", ("literal", path)), (), chars(path) + (("missing", "p" * 120),))

    def test_coin_evaluates_one_branch(self):
        bad = ("file", "m")
        for coins in ((0, 1, 1), (1, 0, 1), (1, 1, 0), (1, 0, 0)):
            environment = (FILES, TARGETS, coins)
            for coin in (0, 1, 2):
                shown = coins[coin]
                expression = ("coin", coin, A, bad) if shown == 0 else ("coin", coin, bad, A)
                self.check(expression, stamped("xyz", 1), (("coin", coin, shown), READ_A), environment)
        self.check_error(("coin", 0, bad, A), ("missing file", "m"), (("coin", 0, 0), ("missing", "m")))

    def test_coins_are_read_as_often_as_they_are_flipped(self):
        expression = ("coin", 1, A, ("coin", 1, A, B))
        self.check(expression, stamped("y", 4), (("coin", 1, 1), ("coin", 1, 1), READ_B))

    def test_origins_play_no_part(self):
        text = (("a", 0, 0), ("b", 0, 0), ("a", 0, 0))
        wanted = (("a", 5, 5),)
        self.check(("after", ("literal", text), ("literal", wanted)), text[1:], chars(wanted + text[:1]))

    def test_arguments_stay_as_they_are(self):
        expression = ("find", A, ("concat files", "b"))
        evaluate(expression, ENVIRONMENT)
        self.assertEqual(expression, ("find", A, ("concat files", "b")))
        self.assertEqual(len(ENVIRONMENT[0]), 7)


class ErrorsTest(EvaluationTest):

    def test_each_error_in_each_part_of_each_form(self):
        for bad, error, reads in ERRORS:
            for word in ("concat", "find", "after", "before"):
                self.check_error((word, bad, A), error, reads)
                self.check_error((word, A, bad), error, (READ_A,) + reads)
            self.check_error(("slice", bad, 0, 0), error, reads)
            self.check_error(("replace all", bad, A, B), error, reads)
            self.check_error(("replace all", A, bad, B), error, (READ_A,) + reads)
            self.check_error(("replace all", A, B, bad), error, (READ_A, READ_B) + reads)
            self.check_error(("replace all", A, E, bad), error, (READ_A, READ_E) + reads)
            self.check_error(("if", bad, A, B), error, reads)
            self.check_error(("if", A, bad, B), error, (READ_A,) + reads)
            self.check_error(("if", E, A, bad), error, (READ_E,) + reads)
            self.check_error(("dynamic file", bad), error, reads)
            self.check_error(("coin", 0, bad, A), error, (("coin", 0, 0),) + reads)
            self.check_error(("coin", 1, A, bad), error, (("coin", 1, 1),) + reads)

    def test_the_first_error_counts(self):
        for bad, error, reads in ERRORS:
            for worse, _, _ in ERRORS:
                self.check_error(("concat", bad, worse), error, reads)
                self.check_error(("concat", ("slice", bad, 0, 1), worse), error, reads)


class TooLongTest(EvaluationTest):

    def test_files(self):
        self.check(("file", "most"), stamped("m" * 120, 6), (("file", "most", 120),))
        for expression in (("file", "long"), ("optional file", "long")):
            self.check_error(expression, ("too long",), (("file", "long", 121),))

    def test_dynamic_file(self):
        path = stamped("long", 9)
        self.check_error(("dynamic file", ("literal", path)), ("too long",), chars(path) + (("file", "long", 121),))
        path = stamped("most", 9)
        self.check(("dynamic file", ("literal", path)), stamped("m" * 120, 6), chars(path) + (("file", "most", 120),))

    def test_literals(self):
        self.check(literal("a" * 120), stamped("a" * 120), ())
        self.check(("concat", literal("a" * 60), literal("b" * 60)), stamped("a" * 60) + stamped("b" * 60), ())
        self.check_error(("concat", literal("a" * 60), literal("b" * 61)), ("too long",), ())
        self.check_error(("concat", ("concat", literal("a" * 100), literal("b" * 20)), literal("c")), ("too long",), ())

    def test_each_subexpression_counts(self):
        # The text of the whole would be short.
        reads = (("file", "most", 120), READ_B)
        self.check_error(("slice", ("concat", ("file", "most"), B), 0, 1), ("too long",), reads)
        self.check_error(("if", ("concat", ("file", "most"), B), B, B), ("too long",), reads)
        self.check(("slice", ("file", "most"), 119, 120), (("m", 6, 119),), reads[:1])

    def test_concat_reads_all_before(self):
        self.check_error(("concat", ("file", "most"), ("concat", B, T)), ("too long",), (
            ("file", "most", 120), READ_B, ("target", "t", 2),
        ))

    def test_replace_all_reads_all_before(self):
        text, wanted, new = stamped("a" * 61), stamped("a", 2), stamped("bb", 3)
        expression = ("replace all", ("literal", text), ("literal", wanted), ("literal", new))
        self.check_error(expression, ("too long",), chars(wanted + text))
        shorter = ("replace all", ("literal", text[:60]), ("literal", wanted), ("literal", new))
        self.check(shorter, new * 60, chars(wanted + text[:60]))

    def test_concat_files_reads_all_before(self):
        files = (("a", stamped("a" * 121)), ("b", stamped("b")), ("c", stamped("c" * 120)))
        reads = (("list", "", ("a", "b", "c")), ("file", "a", 121), ("file", "b", 1), ("file", "c", 120))
        self.check_error(("concat files", ""), ("too long",), reads, (files, (), (0, 0, 0)))
        reads = (("list", "c", ("c",)), ("file", "c", 120))
        self.check(("concat files", "c"), stamped("c" * 120), reads, (files, (), (0, 0, 0)))
        files = (("a", stamped("a" * 60)), ("b", stamped("b" * 61)))
        reads = (("list", "", ("a", "b")), ("file", "a", 60), ("file", "b", 61))
        self.check_error(("concat files", ""), ("too long",), reads, (files, (), (0, 0, 0)))


class ReferenceTest(unittest.TestCase):

    def test_many_expressions(self):
        rng = random.Random(80)
        seen = {}
        for _ in range(4000):
            expression = random_expression(rng, 4, True)
            environment = random_environment(rng)
            result = evaluate(expression, environment)
            self.assertEqual(result, slow_evaluate(expression, environment), (expression, environment))
            seen[result[0][0] if result[0][0] == "text" else result[0][1][0]] = True
        self.assertEqual(sorted(seen), ["cycle", "missing file", "missing target", "text", "too long"])


if __name__ == "__main__":
    unittest.main()
