"""Rewriting: points 45 to 47."""

import unittest

from shiptrace.rewriting import normalize, rewritings
from support import is_plain, literal, stamped

EMPTY = ("literal", ())
FILE = ("file", "a")
OTHER = ("target", "b")
X = literal("x", 1)
XYZ = literal("xyz", 2)
NOWHERE = ("slice", FILE, 0, 0)

NESTED = {
    "concat": (1, 2), "slice": (1,), "find": (1, 2), "after": (1, 2), "before": (1, 2),
    "replace all": (1, 2, 3), "if": (1, 2, 3), "dynamic file": (1,), "coin": (2, 3),
}


def slow_top(expression):
    """Return what the ten rules, one after another, make of the expression itself."""
    found = []
    match expression:
        case ("concat", d, e):
            found.extend([e] if d == EMPTY else [])
            found.extend([d] if e == EMPTY else [])
            if d[0] == e[0] == "literal" and len(d[1]) + len(e[1]) <= 120:
                found.append(("literal", d[1] + e[1]))
        case ("slice", e, i, j):
            if e[0] == "literal":
                found.append(("literal", tuple([e[1][k] for k in range(len(e[1])) if i <= k < j])))
            if e[0] == "slice":
                found.append(("slice", e[1], e[2] + i, min(e[3], e[2] + j)))
            if i > 0 and j <= i:
                found.append(("slice", e, 0, 0))
        case ("find" | "before", e, ("literal", ())):
            found.append(("slice", e, 0, 0))
        case ("after", e, ("literal", ())):
            found.append(e)
        case ("replace all", e, ("literal", ()), ("literal", _)):
            found.append(e)
        case ("if", ("literal", t), d, e):
            found.append(d if len(t) > 0 else e)
    return found


def slow_rewritings(expression):
    found = slow_top(expression)
    for place in NESTED.get(expression[0], ()):
        for part in slow_rewritings(expression[place]):
            found.append(expression[:place] + (part,) + expression[place + 1:])
    return found


def forms_over(parts):
    """Return expressions of all forms with nested expressions from the list."""
    found = []
    for a in parts:
        found.extend([("slice", a, i, j) for i, j in ((0, 0), (0, 2), (1, 1), (2, 1), (1, 3))])
        found.append(("dynamic file", a))
        for b in parts:
            found.extend([(word, a, b) for word in ("concat", "find", "after", "before")])
            found.append(("coin", 1, a, b))
            found.extend([(word, a, b, c) for word in ("replace all", "if") for c in (EMPTY, X, FILE)])
    return found


class RulesTest(unittest.TestCase):

    def check(self, expression, *expected):
        result = rewritings(expression)
        self.assertEqual(result, expected)
        self.assertTrue(is_plain(result))

    def test_rule_1(self):
        self.check(("concat", EMPTY, FILE), FILE)

    def test_rule_2(self):
        self.check(("concat", FILE, EMPTY), FILE)
        self.check(("concat", FILE, OTHER))

    def test_rule_3(self):
        self.check(("concat", X, XYZ), ("literal", X[1] + XYZ[1]))
        self.check(("concat", XYZ, X), ("literal", XYZ[1] + X[1]))
        self.check(("concat", X, FILE))
        self.check(("concat", FILE, X))

    def test_rule_3_has_a_bound(self):
        for length in (1, 60, 119):
            first, second = stamped("a" * length, 1), stamped("b" * (120 - length), 2)
            self.check(("concat", ("literal", first), ("literal", second)), ("literal", first + second))
            self.check(("concat", ("literal", first + stamped("c", 3)), ("literal", second)))

    def test_rules_1_to_3_together(self):
        self.check(("concat", EMPTY, EMPTY), EMPTY, EMPTY, EMPTY)
        self.check(("concat", EMPTY, X), X, X)
        self.check(("concat", X, EMPTY), X, X)
        long = literal("a" * 120, 1)
        self.check(("concat", long, EMPTY), long, long)
        longer = literal("a" * 121, 1)
        self.check(("concat", longer, EMPTY), longer)

    def test_rule_4(self):
        self.check(("slice", XYZ, 0, 2), ("literal", XYZ[1][:2]))
        self.check(("slice", XYZ, 1, 2), ("literal", XYZ[1][1:2]))
        self.check(("slice", XYZ, 1, 9), ("literal", XYZ[1][1:]))
        self.check(("slice", XYZ, 3, 9), EMPTY)
        self.check(("slice", XYZ, 0, 0), EMPTY)
        self.check(("slice", EMPTY, 0, 4), EMPTY)

    def test_rule_5(self):
        self.check(("slice", ("slice", FILE, 1, 5), 2, 9), ("slice", FILE, 3, 5))
        self.check(("slice", ("slice", FILE, 1, 9), 2, 4), ("slice", FILE, 3, 5))
        self.check(("slice", ("slice", FILE, 0, 9), 0, 4), ("slice", FILE, 0, 4))
        self.check(("slice", ("slice", FILE, 1, 5), 2, 4), ("slice", FILE, 3, 5))

    def test_rule_6(self):
        self.check(("slice", FILE, 3, 3), NOWHERE)
        self.check(("slice", FILE, 3, 2), NOWHERE)
        self.check(("slice", FILE, 1, 0), NOWHERE)
        self.check(("slice", FILE, 3, 4))
        self.check(("slice", FILE, 0, 0))
        self.check(("slice", FILE, 0, 2))

    def test_rules_4_to_6_together(self):
        self.check(("slice", XYZ, 2, 1), EMPTY, ("slice", XYZ, 0, 0))
        inner = ("slice", FILE, 1, 5)
        self.check(("slice", inner, 2, 2), ("slice", FILE, 3, 3), ("slice", inner, 0, 0))
        inner = ("slice", FILE, 4, 2)
        self.check(
            ("slice", inner, 3, 1),
            ("slice", FILE, 7, 2), ("slice", inner, 0, 0), ("slice", NOWHERE, 3, 1),
        )

    def test_rule_7(self):
        self.check(("find", FILE, EMPTY), NOWHERE)
        self.check(("before", FILE, EMPTY), NOWHERE)
        self.check(("find", FILE, X))
        self.check(("before", EMPTY, FILE))

    def test_rule_8(self):
        self.check(("after", FILE, EMPTY), FILE)
        self.check(("after", EMPTY, FILE))
        self.check(("after", FILE, X))

    def test_rule_9(self):
        self.check(("replace all", FILE, EMPTY, X), FILE)
        self.check(("replace all", FILE, EMPTY, EMPTY), FILE)
        self.check(("replace all", FILE, EMPTY, OTHER))
        self.check(("replace all", FILE, X, X))
        self.check(("replace all", EMPTY, FILE, X))

    def test_rule_10(self):
        self.check(("if", X, FILE, OTHER), FILE)
        self.check(("if", EMPTY, FILE, OTHER), OTHER)
        self.check(("if", FILE, X, OTHER))

    def test_the_fixed_forms(self):
        for expression in (X, EMPTY, FILE, OTHER, ("optional file", "a"), ("concat files", "")):
            self.check(expression)
            self.check(("dynamic file", expression))
            self.check(("coin", 0, expression, expression))


class OrderTest(unittest.TestCase):

    def test_by_subexpression_in_reading_order(self):
        expression = ("slice", ("concat", FILE, EMPTY), 3, 2)
        expected = (("slice", ("concat", FILE, EMPTY), 0, 0), ("slice", FILE, 3, 2))
        self.assertEqual(rewritings(expression), expected)
        self.assertEqual(rewritings(expression=expression), expected)

    def test_equal_rewritings_are_each_listed(self):
        twin = ("concat", EMPTY, EMPTY)
        expected = (EMPTY,) * 3
        self.assertEqual(rewritings(twin), expected)
        self.assertEqual(rewritings(("dynamic file", twin)), (("dynamic file", EMPTY),) * 3)
        both = ("coin", 1, twin, twin)
        expected = (("coin", 1, EMPTY, twin),) * 3 + (("coin", 1, twin, EMPTY),) * 3
        self.assertEqual(rewritings(both), expected)

    def test_all_three_parts(self):
        a, b, c = ("concat", FILE, EMPTY), ("after", OTHER, EMPTY), ("if", X, X, FILE)
        for word in ("if", "replace all"):
            expected = ((word, FILE, b, c), (word, a, OTHER, c), (word, a, b, X))
            self.assertEqual(rewritings((word, a, b, c)), expected)

    def test_an_outer_rule_comes_before_an_inner_one(self):
        inner = ("slice", XYZ, 1, 2)
        expression = ("concat", EMPTY, ("concat", inner, EMPTY))
        expected = (
            ("concat", inner, EMPTY),
            ("concat", EMPTY, inner),
            ("concat", EMPTY, ("concat", ("literal", XYZ[1][1:2]), EMPTY)),
        )
        self.assertEqual(rewritings(expression), expected)

    def test_small_expressions(self):
        atoms = [EMPTY, X, FILE]
        inner = atoms + forms_over(atoms)
        for expression in inner:
            self.assertEqual(rewritings(expression), tuple(slow_rewritings(expression)))
        for expression in forms_over(inner[::7] + [("slice", FILE, 2, 1), ("concat", X, EMPTY)]):
            self.assertEqual(rewritings(expression), tuple(slow_rewritings(expression)))


class NormalizeTest(unittest.TestCase):

    def test_ordinary(self):
        expression = ("concat", EMPTY, ("slice", ("slice", FILE, 1, 5), 2, 9))
        self.assertEqual(normalize(expression), ("slice", FILE, 3, 5))
        self.assertEqual(normalize(expression=expression), ("slice", FILE, 3, 5))

    def test_without_rewritings(self):
        for expression in (FILE, X, ("concat", FILE, X), NOWHERE, ("coin", 2, X, EMPTY)):
            self.assertEqual(normalize(expression), expression)

    def test_literals_are_joined(self):
        expression = ("concat", ("concat", X, XYZ), ("slice", XYZ, 1, 3))
        self.assertEqual(normalize(expression), ("literal", X[1] + XYZ[1] + XYZ[1][1:]))

    def test_the_bound_of_joined_literals(self):
        third = [literal("a" * 60, number) for number in range(3)]
        result = normalize(("concat", ("concat", third[0], third[1]), third[2]))
        self.assertEqual(result, ("concat", ("literal", third[0][1] + third[1][1]), third[2]))

    def test_one_rule_makes_room_for_another(self):
        expression = ("if", ("slice", XYZ, 2, 2), FILE, ("find", OTHER, ("concat", EMPTY, EMPTY)))
        self.assertEqual(normalize(expression), ("slice", OTHER, 0, 0))
        self.assertEqual(normalize(("slice", ("slice", FILE, 4, 2), 3, 9)), NOWHERE)

    def test_always_the_first_rewriting(self):
        atoms = [EMPTY, X, FILE]
        for expression in forms_over(atoms + forms_over(atoms)[::11]):
            self.check_steps(expression)

    def test_four_deep(self):
        deep = ("concat", ("slice", ("concat", X, EMPTY), 0, 1), ("after", FILE, EMPTY))
        result = normalize(("replace all", ("coin", 0, deep, EMPTY), ("find", X, EMPTY), EMPTY))
        self.assertEqual(result, ("coin", 0, ("concat", X, FILE), EMPTY))

    def check_steps(self, expression):
        result = normalize(expression)
        self.assertTrue(is_plain(result))
        following = slow_rewritings(expression)
        while following:
            expression = following[0]
            following = slow_rewritings(expression)
        self.assertEqual(result, expression)


if __name__ == "__main__":
    unittest.main()
