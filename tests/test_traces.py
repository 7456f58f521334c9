"""Traces: points 100 to 103."""

import random
import unittest

from reference import is_true, random_environment, random_expression, slow_evaluate, slow_replay, slow_trace
from shiptrace.traces import is_valid, replay, trace_of
from support import is_plain, literal, stamped

X = ("x", 0, 0)
FILES = (("a", stamped("hey", 1)), ("b", stamped("e", 2)), ("e", ()))
TARGETS = (("bad", ("error", ("too long",))), ("u", ("text", (("e", 1, 1),))))
ENVIRONMENT = (FILES, TARGETS, (0, 1, 0))
READ_A = ("file", "a", 3)


def with_file(path, text, environment=ENVIRONMENT):
    """Return the environment with the file, or without it if the text is None."""
    files, targets, coins = environment
    changed = dict(files)
    changed[path] = text
    return tuple([(p, changed[p]) for p in sorted(changed) if changed[p] is not None]), targets, coins


def with_target(name, result, environment=ENVIRONMENT):
    files, targets, coins = environment
    changed = dict(targets)
    changed[name] = result
    return files, tuple([(n, changed[n]) for n in sorted(changed) if changed[n] is not None]), coins


class TraceTest(unittest.TestCase):

    def check(self, expression, reads, addresses, environment=ENVIRONMENT):
        expected = (reads, ("copy", addresses))
        self.assertEqual(trace_of(expression, environment), expected)
        self.assertEqual(slow_trace(expression, environment), expected)
        self.assertTrue(is_plain(trace_of(expression, environment)))
        self.assertTrue(is_valid(expected, expression, environment))
        self.assertEqual(replay(expected, expression, environment), slow_evaluate(expression, environment)[0])

    def test_the_example_of_the_document(self):
        part = ("find", ("target", "u"), literal("e", 2))
        reads = (
            READ_A, ("target", "u", 1), ("char", ("literal", 0), "e"), ("char", ("target", "u", 0), "e"),
        )
        rule = ("concat", ("slice", ("file", "a"), 0, 1), part)
        self.check(rule, reads, (("file", "a", 0), ("target", "u", 0)))
        self.assertEqual(trace_of(expression=rule, environment=ENVIRONMENT)[0], reads)

    def test_characters_with_one_and_the_same_origin(self):
        environment = ((("a", (X, X, X)),), (("u", ("text", (X, X))),), (0, 0, 0))
        expression = ("concat", ("slice", ("file", "a"), 1, 2), ("concat", ("literal", (X,)), ("target", "u")))
        reads = (READ_A, ("target", "u", 2))
        addresses = (("file", "a", 1), ("literal", 0), ("target", "u", 0), ("target", "u", 1))
        self.check(expression, reads, addresses, environment)
        expression = ("after", ("concat", ("literal", (X,)), ("file", "a")), ("target", "u"))
        reads = reads + (
            ("char", ("target", "u", 0), "x"), ("char", ("target", "u", 1), "x"),
            ("char", ("literal", 0), "x"), ("char", ("file", "a", 0), "x"),
        )
        self.check(expression, reads, (("file", "a", 1), ("file", "a", 2)), environment)

    def test_the_same_file_twice(self):
        expression = ("concat", ("file", "b"), ("file", "b"))
        self.check(expression, (("file", "b", 1), ("file", "b", 1)), (("file", "b", 0), ("file", "b", 0)))

    def test_several_forms_pass_a_character_on(self):
        inner = ("slice", ("concat", literal("q"), ("file", "a")), 1, 3)
        self.check(("before", ("slice", inner, 0, 9), literal("")), (READ_A,), ())
        self.check(("after", ("slice", inner, 1, 9), literal("")), (READ_A,), (("file", "a", 1),))
        expression = ("replace all", ("concat files", "a"), literal("e"), ("concat", ("file", "b"), literal("!")))
        reads = (("list", "a", ("a",)), READ_A, ("file", "b", 1), ("char", ("literal", 0), "e")) + tuple([
            ("char", ("file", "a", k), "hey"[k]) for k in range(3)
        ])
        addresses = (("file", "a", 0), ("file", "b", 0), ("literal", 1), ("file", "a", 2))
        self.check(expression, reads, addresses)

    def test_the_path_of_a_dynamic_file(self):
        reads = (("file", "b", 1), ("char", ("file", "b", 0), "e"), ("file", "e", 0))
        self.check(("dynamic file", ("file", "b")), reads, ())
        expression = ("dynamic file", ("concat", literal("", 5), literal("a", 5)))
        reads = (("char", ("literal", 0), "a"), READ_A)
        self.check(expression, reads, (("file", "a", 0), ("file", "a", 1), ("file", "a", 2)))

    def test_literals_are_numbered_over_the_whole_expression(self):
        expression = ("if", literal("ab"), ("concat", literal("c"), literal("de")), literal("f"))
        self.check(expression, (), (("literal", 2), ("literal", 3), ("literal", 4)))
        expression = ("if", literal(""), ("concat", literal("c"), literal("de")), literal("f"))
        self.check(expression, (), (("literal", 3),))
        expression = ("coin", 1, ("literal", (X, X)), ("find", ("literal", (X,)), ("literal", (X, X))))
        reads = (("coin", 1, 1),) + tuple([("char", ("literal", k), "x") for k in (3, 4, 2)])
        self.check(expression, reads, ())

    def test_errors(self):
        for expression, error, reads in (
            (("concat", ("file", "a"), ("file", "m")), ("missing file", "m"), (READ_A, ("missing", "m"))),
            (("target", "m"), ("missing target", "m"), (("failed", "m", ("missing target", "m")),)),
            (("target", "bad"), ("too long",), (("failed", "bad", ("too long",)),)),
            (("concat", literal("a" * 120), ("file", "b")), ("too long",), (("file", "b", 1),)),
        ):
            trace = trace_of(expression, ENVIRONMENT)
            self.assertEqual(trace, (reads, ("error", error)))
            self.assertEqual(replay(trace, expression, ENVIRONMENT), ("error", error))

    def test_many_expressions(self):
        rng = random.Random(100)
        for _ in range(2500):
            expression = random_expression(rng, 4, True)
            environment = random_environment(rng)
            trace = trace_of(expression, environment)
            self.assertEqual(trace, slow_trace(expression, environment), (expression, environment))
            self.assertIs(is_valid(trace, expression, environment), True)
            self.assertEqual(replay(trace, expression, environment), slow_evaluate(expression, environment)[0])


class ReplayTest(unittest.TestCase):

    def check(self, reads, valid, expression=("literal", ()), environment=ENVIRONMENT):
        """Check what is true, with the reads one by one and behind a true one."""
        for before in ((), (("coin", 0, 0),)):
            trace = (before + reads, ("copy", ()))
            self.assertIs(is_valid(trace, expression, environment), valid, reads)
            self.assertEqual(replay(trace, expression, environment), ("text", ()) if valid else None)
            trace = (before + reads, ("error", ("too long",)))
            self.assertIs(is_valid(trace, expression, environment), valid, reads)
            self.assertEqual(replay(trace, expression, environment), ("error", ("too long",)) if valid else None)

    def test_no_reads(self):
        self.check((), True)

    def test_files(self):
        self.check((READ_A,), True)
        self.check((("file", "a", 2),), False)
        self.check((("file", "a", 4),), False)
        self.check((("file", "m", 0),), False)
        self.check((("file", "e", 0),), True)
        self.check((("missing", "m"),), True)
        self.check((("missing", "a"),), False)
        self.check((("missing", "e"),), False)
        self.check((("missing", "Any thing"),), True)

    def test_listings(self):
        self.check((("list", "", ("a", "b", "e")),), True)
        self.check((("list", "", ("a", "b")),), False)
        self.check((("list", "", ()),), False)
        self.check((("list", "a", ("a",)),), True)
        self.check((("list", "a/", ()),), True)
        self.check((("list", "b", ("a", "b")),), False)

    def test_targets(self):
        self.check((("target", "u", 1),), True)
        self.check((("target", "u", 0),), False)
        self.check((("target", "m", 0),), False)
        self.check((("target", "bad", 0),), False)
        self.check((("failed", "bad", ("too long",)),), True)
        self.check((("failed", "bad", ("cycle", "u")),), False)
        self.check((("failed", "m", ("missing target", "m")),), True)
        self.check((("failed", "m", ("missing target", "n")),), False)
        self.check((("failed", "u", ("too long",)),), False)

    def test_coins(self):
        for coin, shown in ((0, 0), (1, 1), (2, 0)):
            self.check((("coin", coin, shown),), True)
            self.check((("coin", coin, 1 - shown),), False)

    def test_characters(self):
        rule = ("concat", literal("p"), literal("q"))
        self.check((("char", ("literal", 1), "q"),), True, rule)
        self.check((("char", ("literal", 1), "p"),), False, rule)
        self.check((("char", ("literal", 2), "q"),), False, rule)
        self.check((("char", ("file", "a", 2), "y"),), True)
        self.check((("char", ("file", "a", 2), "e"),), False)
        self.check((("char", ("file", "a", 3), "y"),), False)
        self.check((("char", ("file", "m", 0), "y"),), False)
        self.check((("char", ("target", "u", 0), "e"),), True)
        self.check((("char", ("target", "u", 0), "f"),), False)
        self.check((("char", ("target", "u", 1), "e"),), False)
        self.check((("char", ("target", "bad", 0), "t"),), False)
        self.check((("char", ("target", "m", 0), "m"),), False)

    def test_all_reads_count(self):
        self.check((READ_A, ("file", "m", 1)), False)
        self.check((("file", "m", 1), READ_A), False)
        self.check((READ_A, ("missing", "m"), READ_A), True)

    def test_addresses_that_refer_to_no_character(self):
        for address in (
            ("literal", 1), ("file", "a", 3), ("file", "m", 0), ("file", "e", 0), ("target", "u", 1),
            ("target", "bad", 0), ("target", "m", 0), ("literal", 10 ** 21),
        ):
            trace = ((READ_A,), ("copy", (("literal", 0), address)))
            self.assertIs(is_valid(trace, literal("z"), ENVIRONMENT), True)
            self.assertIsNone(replay(trace, literal("z"), ENVIRONMENT), address)

    def test_origins_are_those_of_the_environment(self):
        rule = ("concat", ("find", ("file", "a"), literal("e", 7)), ("concat", literal("!", 7, 1), ("target", "u")))
        trace = trace_of(rule, ENVIRONMENT)
        environment = with_file("a", (("h", 9, 9), ("e", 9, 9), ("y", 9, 8)))
        environment = with_target("u", ("text", (("k", 4, 4),)), environment)
        other = ("concat", ("find", ("file", "a"), literal("e", 5)), ("concat", literal("?", 6), ("target", "u")))
        expected = ("text", (("e", 9, 9), ("?", 6, 0), ("k", 4, 4)))
        self.assertEqual(replay(trace, other, environment), expected)
        self.assertEqual(replay(trace=trace, expression=other, environment=environment), expected)
        self.assertIs(is_valid(trace=trace, expression=other, environment=environment), True)
        self.assertTrue(is_plain(expected))

    def test_only_signs_that_were_read_matter(self):
        rule = ("before", ("file", "a"), literal("e", 7))
        trace = trace_of(rule, ENVIRONMENT)
        self.assertEqual(replay(trace, rule, with_file("a", stamped("heq", 5))), ("text", stamped("h", 5)))
        self.assertIsNone(replay(trace, rule, with_file("a", stamped("hoy", 5))))
        self.assertIsNone(replay(trace, rule, with_file("a", stamped("heyy", 5))))
        self.assertIsNone(replay(trace, rule, with_file("a", None)))
        self.assertIsNone(replay(trace, ("before", ("file", "a"), literal("h")), ENVIRONMENT))

    def test_traces_elsewhere(self):
        rng = random.Random(102)
        seen = [0, 0, 0]
        for _ in range(2500):
            expression = random_expression(rng, 3, True)
            environment = random_environment(rng)
            trace = slow_trace(expression, environment)
            if rng.randrange(2):
                expression = random_expression(rng, 3, True)
            if rng.randrange(4):
                other = random_environment(rng)
                # What is left of the old environment makes it likelier that a trace is valid.
                environment = tuple([rng.choice(pair) for pair in zip(environment, other)])
            expected = slow_replay(trace, expression, environment)
            valid = all([is_true(read, expression, environment) for read in trace[0]])
            self.assertEqual(replay(trace, expression, environment), expected)
            self.assertIs(is_valid(trace, expression, environment), valid)
            seen[valid + (expected is not None)] += 1
        self.assertTrue(min(seen) > 50, seen)


if __name__ == "__main__":
    unittest.main()
