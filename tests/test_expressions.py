"""Expressions: points 40 to 44."""

import unittest

from shiptrace.expressions import fill, literals_of, references_of, shape_of, stamp_expression
from support import is_plain, stamped

# The places of nested expressions, written down a second time for the tests.
NESTED = {
    "literal": (), "file": (), "optional file": (), "target": (), "concat": (1, 2), "slice": (1,),
    "find": (1, 2), "after": (1, 2), "before": (1, 2), "replace all": (1, 2, 3), "if": (1, 2, 3),
    "concat files": (), "dynamic file": (1,), "coin": (2, 3),
}


def all_forms(a, b, c):
    """Return one expression for each of the fourteen forms."""
    return (
        ("literal", "lit"), ("file", "f"), ("optional file", "o"), ("target", "t"), ("concat", a, b),
        ("slice", a, 1, 3), ("find", a, b), ("after", a, b), ("before", a, b), ("replace all", a, b, c),
        ("if", a, b, c), ("concat files", "p/"), ("dynamic file", a), ("coin", 2, a, b),
    )


def deep_expressions():
    """Return written expressions, each form standing in each form, four deep."""
    found = []
    for first in all_forms(("literal", "xy"), ("target", "u"), ("literal", "")):
        for second in all_forms(first, ("literal", "q"), ("coin", 1, first, ("file", "g"))):
            found.extend(all_forms(second, first, ("literal", "zz")))
    return found


def slow_literals(expression):
    """Return what the literals hold, in reading order."""
    if expression[0] == "literal":
        return [expression[1]]
    found = []
    for place in NESTED[expression[0]]:
        found = found + slow_literals(expression[place])
    return found


def slow_references(expression, word):
    found = [expression[1]] if expression[0] == word else []
    for place in NESTED[expression[0]]:
        found = found + slow_references(expression[place], word)
    return found


def slow_change(expression, values):
    """Return the expression with its literals taken from the list, which is used up."""
    if expression[0] == "literal":
        return ("literal", values.pop(0))
    parts = list(expression)
    for place in NESTED[expression[0]]:
        parts[place] = slow_change(parts[place], values)
    return tuple(parts)


def slow_stamped(expression, change, start):
    values = []
    for string in slow_literals(expression):
        values.append(stamped(string, change, start))
        start += len(string)
    return slow_change(expression, values)


def slow_shape(expression):
    return slow_change(expression, [len(value) for value in slow_literals(expression)])


class StampExpressionTest(unittest.TestCase):

    def test_reading_order(self):
        written = ("if", ("literal", "x"), ("file", "a"), ("literal", "y"))
        expected = ("if", ("literal", (("x", 2, 7),)), ("file", "a"), ("literal", (("y", 2, 8),)))
        self.assertEqual(stamp_expression(written, 2, 7), expected)
        self.assertEqual(stamp_expression(expression=written, change=2, start=7), expected)

    def test_without_a_start_number(self):
        written = ("concat", ("literal", "ab"), ("literal", "c"))
        expected = ("concat", ("literal", (("a", 3, 0), ("b", 3, 1))), ("literal", (("c", 3, 2),)))
        self.assertEqual(stamp_expression(written, 3), expected)

    def test_empty_literals(self):
        self.assertEqual(stamp_expression(("literal", ""), 1, 5), ("literal", ()))
        written = ("concat", ("literal", ""), ("concat", ("literal", "a"), ("literal", "")))
        expected = ("concat", ("literal", ()), ("concat", ("literal", (("a", 1, 5),)), ("literal", ())))
        self.assertEqual(stamp_expression(written, 1, 5), expected)

    def test_long_literals(self):
        written = ("find", ("literal", "a" * 120), ("literal", "b" * 120))
        expected = ("find", ("literal", stamped("a" * 120, 4, 1)), ("literal", stamped("b" * 120, 4, 121)))
        self.assertEqual(stamp_expression(written, 4, 1), expected)

    def test_large_numbers(self):
        start = 10 ** 21
        written = ("concat", ("literal", "a"), ("literal", "b"))
        expected = ("concat", ("literal", (("a", start, start),)), ("literal", (("b", start, start + 1),)))
        self.assertEqual(stamp_expression(written, start, start), expected)

    def test_numbers_and_names_stay(self):
        written = ("coin", 1, ("slice", ("target", "literal"), 3, 9), ("concat files", "file"))
        self.assertEqual(stamp_expression(written, 4), written)

    def test_each_form_in_each_form(self):
        for written in deep_expressions():
            result = stamp_expression(written, 6, 2)
            self.assertEqual(result, slow_stamped(written, 6, 2))
            self.assertTrue(is_plain(result))


class LiteralsTest(unittest.TestCase):

    def test_in_reading_order(self):
        expression = (
            "replace all",
            ("concat", ("literal", stamped("a", 1)), ("file", "x")),
            ("literal", stamped("bc", 9, 4)),
            ("coin", 0, ("literal", stamped("d", 0)), ("literal", stamped("e", 2, 2))),
        )
        expected = (("a", 1, 0), ("b", 9, 4), ("c", 9, 5), ("d", 0, 0), ("e", 2, 2))
        self.assertEqual(literals_of(expression), expected)
        self.assertEqual(literals_of(expression=expression), expected)

    def test_no_literals(self):
        for expression in (("file", "a"), ("target", "literal"), ("literal", ()), ("concat files", "")):
            self.assertEqual(literals_of(expression), ())

    def test_equal_characters_are_all_listed(self):
        text = stamped("aa", 1)
        self.assertEqual(literals_of(("concat", ("literal", text), ("literal", text))), text + text)

    def test_each_form_in_each_form(self):
        for written in deep_expressions():
            expected = stamped("".join(slow_literals(written)), 3, 1)
            result = literals_of(slow_stamped(written, 3, 1))
            self.assertEqual(result, expected)


class ReferencesTest(unittest.TestCase):

    def test_order_and_repetitions(self):
        parts = ("concat", ("target", "a"), ("target", "b"))
        self.assertEqual(references_of(("coin", 2, ("target", "b"), parts)), (("b", "a"), (2,)))

    def test_coins_in_ascending_order(self):
        leaf = ("file", "x")
        inner = ("coin", 0, ("coin", 2, leaf, leaf), ("coin", 1, leaf, leaf))
        self.assertEqual(references_of(("coin", 2, inner, leaf)), ((), (0, 1, 2)))
        self.assertEqual(references_of(("coin", 1, ("coin", 0, leaf, leaf), leaf)), ((), (0, 1)))
        self.assertEqual(references_of(expression=("coin", 1, ("coin", 1, leaf, leaf), leaf)), ((), (1,)))

    def test_only_targets_are_referenced(self):
        parts = (("file", "t"), ("optional file", "t"), ("concat files", "t"), ("literal", "t"))
        for part in parts:
            self.assertEqual(references_of(("dynamic file", part)), ((), ()))

    def test_written_and_stamped(self):
        for written in deep_expressions():
            names = tuple(dict.fromkeys(slow_references(written, "target")))
            coins = tuple(sorted(set(slow_references(written, "coin"))))
            self.assertEqual(references_of(written), (names, coins))
            result = references_of(slow_stamped(written, 1, 0))
            self.assertEqual(result, (names, coins))
            self.assertTrue(is_plain(result))


class ShapeTest(unittest.TestCase):

    def test_lengths_in_the_place_of_literals(self):
        written = ("concat", ("literal", "abc"), ("slice", ("literal", ""), 2, 5))
        shape = ("concat", ("literal", 3), ("slice", ("literal", 0), 2, 5))
        self.assertEqual(shape_of(written), shape)
        self.assertEqual(shape_of(slow_stamped(written, 1, 1)), shape)
        self.assertEqual(shape_of(expression=("literal", "a" * 120)), ("literal", 120))

    def test_each_form_in_each_form(self):
        for written in deep_expressions():
            shape = slow_shape(written)
            result = shape_of(written)
            self.assertEqual(result, shape)
            self.assertTrue(is_plain(result))
            self.assertEqual(shape_of(slow_stamped(written, 5, 3)), shape)


class FillTest(unittest.TestCase):

    def test_ordinary(self):
        shape = ("concat", ("literal", 1), ("literal", 2))
        text = (("a", 5, 0), ("b", 0, 9), ("c", 5, 2), ("d", 5, 3))
        expected = ("concat", ("literal", text[:1]), ("literal", text[1:3]))
        self.assertEqual(fill(shape, text), expected)
        self.assertEqual(fill(shape=shape, text=text[:3]), expected)

    def test_empty_literals(self):
        shape = ("if", ("literal", 0), ("literal", 1), ("literal", 0))
        text = (("a", 5, 0),)
        self.assertEqual(fill(shape, text), ("if", ("literal", ()), ("literal", text), ("literal", ())))
        self.assertEqual(fill(("literal", 0), ()), ("literal", ()))
        self.assertEqual(fill(("file", "a"), text), ("file", "a"))

    def test_long_literals(self):
        text = stamped("ab" * 120, 1)
        expected = ("find", ("literal", text[:120]), ("literal", text[120:]))
        self.assertEqual(fill(("find", ("literal", 120), ("literal", 120)), text), expected)

    def test_filling_a_shape_with_its_own_characters(self):
        for written in deep_expressions():
            expression = slow_stamped(written, 2, 4)
            text = stamped("".join(slow_literals(written)), 2, 4)
            result = fill(slow_shape(written), text + stamped("more", 9))
            self.assertEqual(result, expression)
            self.assertTrue(is_plain(result))


if __name__ == "__main__":
    unittest.main()
