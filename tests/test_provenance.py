"""Provenance: points 200 and 201."""

import random
import unittest

from reference import all_parts, look, once, random_tree, random_whole_tree, slow_build, slow_environment, slow_trace
from shiptrace.errors import NoSuchCharacter, NoSuchTarget
from shiptrace.provenance import copied_from, copies_of, influences_of, is_path, path_of
from shiptrace.trees import EMPTY
from support import is_plain, literal, stamped

FILES = (("f", stamped("ab", 0)), ("g", stamped("b", 4)))
RULES = (
    ("bad", ("concat", ("find", ("file", "f"), ("file", "g")), ("file", "m"))),
    ("find", ("find", ("file", "f"), literal("b", 0, 3))),
    ("loop", ("target", "loop")),
    ("parts", ("concat", literal("xy", 7), ("concat", ("file", "f"), literal("z", 7, 2)))),
    ("same", ("concat", ("target", "two"), ("target", "two"))),
    ("two", ("slice", ("target", "parts"), 1, 3)),
)
TREE = (FILES, RULES, (), (), ())


def slow_step(tree, target, index):
    """Return the step from which a character was copied, or None if there is no such character."""
    rule = look(tree[1], target)
    (kind, value), _ = slow_build(tree, target)
    if rule is None or kind == "error" or index >= len(value):
        return None
    _, (_, addresses) = slow_trace(rule, slow_environment(tree))
    word, *rest = addresses[index]
    return ("literal", target, rest[0]) if word == "literal" else addresses[index]


def slow_path(tree, step):
    if step[0] != "target":
        return (step,)
    return (step,) + slow_path(tree, slow_step(tree, step[1], step[2]))


def slow_is_path(tree, steps):
    """A path is valid if it is the one that its first step begins, and this one exists."""
    if not steps:
        return False
    word, name, index = steps[0]
    if word == "target":
        return slow_step(tree, name, index) is not None and slow_path(tree, steps[0]) == steps
    if word == "file":
        text = look(tree[0], name) or ()
    else:
        rule = look(tree[1], name) or ("literal", ())
        text = [c for part in all_parts(rule) if part[0] == "literal" for c in part[1]]
    return len(steps) == 1 and index < len(text)


class ProvenanceTest(unittest.TestCase):

    def check_errors(self, tree, target, index, error):
        """Check that both functions raise the error; for None, that there is no such character."""
        for function in (copied_from, path_of):
            with self.assertRaises(NoSuchCharacter if error is None else NoSuchTarget) as caught:
                function(tree, target, index)
            if error is not None:
                self.assertEqual(caught.exception.name, error)


class CopiedFromTest(ProvenanceTest):

    def check(self, target, *steps, tree=TREE):
        for index, step in enumerate(steps):
            self.assertEqual(copied_from(tree, target, index), step)
            self.assertEqual(slow_step(tree, target, index), step)
            self.assertTrue(is_plain(copied_from(tree, target, index)))
        self.check_errors(tree, target, len(steps), None)

    def test_literals_files_and_targets(self):
        self.check("parts", ("literal", "parts", 0), ("literal", "parts", 1), ("file", "f", 0), ("file", "f", 1),
                   ("literal", "parts", 2))
        self.check("two", ("target", "parts", 1), ("target", "parts", 2))
        self.check("same", *[("target", "two", 0), ("target", "two", 1)] * 2)

    def test_a_match_is_copied_from_where_it_was_found(self):
        self.check("find", ("file", "f", 1))

    def test_a_literal_that_is_replaced_in(self):
        rules = (("r", ("replace all", ("file", "f"), ("file", "g"), literal("pq", 9))),)
        self.check("r", ("file", "f", 0), ("literal", "r", 0), ("literal", "r", 1), tree=(FILES, rules, (), (), ()))

    def test_equal_characters_in_two_places(self):
        rules = (("r", ("concat", literal("a", 0), ("file", "f"))),)
        self.check("r", ("literal", "r", 0), ("file", "f", 0), ("file", "f", 1), tree=(FILES, rules, (), (), ()))

    def test_listed_and_dynamic_files(self):
        rules = (("r", ("concat", ("concat files", ""), ("dynamic file", literal("g")))),)
        self.check("r", ("file", "f", 0), ("file", "f", 1), ("file", "g", 0), ("file", "g", 0),
                   tree=(FILES, rules, (), (), ()))

    def test_errors(self):
        self.check_errors(TREE, "none", 0, "none")
        self.check_errors(EMPTY, "r", 0, "r")
        self.check_errors(TREE, "bad", 0, None)
        self.check_errors(TREE, "loop", 0, None)
        self.check_errors(TREE, "find", 1, None)
        self.check_errors(TREE, "find", 999, None)
        self.check_errors(((), (("r", ("literal", ())),), (), (), ()), "r", 0, None)

    def test_a_cycle_that_the_target_does_not_need(self):
        rules = (("r", ("if", literal("x"), ("file", "f"), ("target", "r"))),)
        self.check("r", ("file", "f", 0), ("file", "f", 1), tree=(FILES, rules, (), (), ()))

    def test_keywords(self):
        self.assertEqual(copied_from(tree=TREE, target="two", index=0), ("target", "parts", 1))


class PathTest(ProvenanceTest):

    def check(self, *steps):
        _, target, index = steps[0]
        self.assertEqual(path_of(TREE, target, index), steps)
        self.assertEqual(slow_path(TREE, steps[0]), steps)
        self.assertIs(is_path(TREE, steps), True)
        self.assertIs(slow_is_path(TREE, steps), True)
        self.assertTrue(is_plain(path_of(TREE, target, index)))

    def test_one_step_further(self):
        self.check(("target", "find", 0), ("file", "f", 1))
        self.check(("target", "parts", 0), ("literal", "parts", 0))
        self.check(("target", "parts", 4), ("literal", "parts", 2))

    def test_through_several_targets(self):
        self.check(("target", "two", 0), ("target", "parts", 1), ("literal", "parts", 1))
        self.check(("target", "same", 3), ("target", "two", 1), ("target", "parts", 2), ("file", "f", 0))
        self.check(("target", "same", 2), ("target", "two", 0), ("target", "parts", 1), ("literal", "parts", 1))

    def test_keywords(self):
        path = path_of(tree=TREE, target="find", index=0)
        self.assertIs(is_path(tree=TREE, steps=path), True)


class IsPathTest(unittest.TestCase):

    def check(self, steps, expected, tree=TREE):
        self.assertIs(is_path(tree, steps), expected, steps)
        self.assertIs(slow_is_path(tree, steps), expected, steps)

    def test_no_steps(self):
        self.check((), False)
        self.check((), False, EMPTY)

    def test_a_single_step(self):
        self.check((("file", "f", 1),), True)
        self.check((("file", "f", 2),), False)
        self.check((("file", "m", 0),), False)
        self.check((("literal", "parts", 2),), True)
        self.check((("literal", "parts", 3),), False)
        self.check((("literal", "find", 0),), True)
        self.check((("literal", "none", 0),), False)
        self.check((("literal", "f", 0),), False)
        self.check((("target", "find", 0),), False)

    def test_a_literal_of_a_rule_with_an_error(self):
        rules = (("r", ("concat", literal("x"), ("file", "m"))),)
        self.check((("literal", "r", 0),), True, ((), rules, (), (), ()))

    def test_a_path_that_stops_too_early(self):
        self.check((("target", "same", 3), ("target", "two", 1), ("target", "parts", 2)), False)
        self.check((("target", "same", 3), ("target", "two", 1)), False)
        self.check((("target", "same", 3),), False)

    def test_a_path_that_goes_on_too_far(self):
        self.check((("target", "find", 0), ("file", "f", 1), ("file", "f", 1)), False)
        self.check((("file", "f", 1), ("file", "f", 1)), False)
        self.check((("literal", "parts", 0), ("literal", "parts", 0)), False)
        self.check((("file", "f", 1), ("target", "find", 0), ("file", "f", 1)), False)

    def test_a_path_from_the_middle(self):
        self.check((("target", "two", 1), ("target", "parts", 2), ("file", "f", 0)), True)
        self.check((("target", "same", 3), ("target", "parts", 2), ("file", "f", 0)), False)

    def test_a_step_to_another_character(self):
        self.check((("target", "two", 1), ("target", "parts", 2), ("file", "f", 1)), False)
        self.check((("target", "two", 1), ("target", "parts", 1), ("literal", "parts", 1)), False)
        self.check((("target", "find", 0), ("file", "g", 0)), False)
        self.check((("target", "find", 0), ("literal", "find", 0)), False)

    def test_steps_to_what_does_not_exist(self):
        self.check((("target", "none", 0), ("file", "f", 0)), False)
        self.check((("target", "find", 1), ("file", "f", 1)), False)
        self.check((("target", "bad", 0), ("file", "f", 1)), False)
        self.check((("target", "loop", 0), ("target", "loop", 0), ("file", "f", 1)), False)
        self.check((("target", "find", 0), ("file", "m", 1)), False)


class CopiesTest(unittest.TestCase):

    def test_in_several_targets(self):
        self.assertEqual(copies_of(TREE, 0, 1), (("find", 0), ("parts", 3)))
        self.assertEqual(copies_of(TREE, 0, 0), (("parts", 2), ("same", 1), ("same", 3), ("two", 1)))
        self.assertEqual(copies_of(TREE, 7, 1), (("parts", 1), ("same", 0), ("same", 2), ("two", 0)))

    def test_none(self):
        self.assertEqual(copies_of(TREE, 4, 0), ())
        self.assertEqual(copies_of(TREE, 0, 2), ())
        self.assertEqual(copies_of(TREE, 1, 0), ())
        self.assertEqual(copies_of(tree=EMPTY, change=0, index=0), ())

    def test_the_order_by_name_and_then_by_index(self):
        rules = tuple([("t%02d" % k, ("concat", ("file", "f"), ("file", "f"))) for k in range(12)])
        copies = tuple([("t%02d" % k, i) for k in range(12) for i in (1, 3)])
        self.assertEqual(copies_of((FILES, rules, (), (), ()), 0, 1), copies)
        self.assertTrue(is_plain(copies))


class InfluencesTest(unittest.TestCase):

    def test_what_is_read(self):
        self.assertEqual(influences_of(TREE, "find"), ((0, 3), (0, 0), (0, 1)))
        self.assertEqual(influences_of(TREE, "two"), ())
        self.assertTrue(is_plain(influences_of(TREE, "find")))

    def test_on_the_way_through_other_targets(self):
        rules = RULES + (("use", ("concat", ("target", "find"), ("find", ("target", "find"), ("file", "g")))),)
        self.assertEqual(influences_of((FILES, rules, (), (), ()), "use"), ((0, 3), (0, 0), (0, 1), (4, 0)))

    def test_each_origin_once(self):
        files = (("f", (("a", 1, 0), ("b", 1, 0), ("a", 1, 0))),)
        rules = (("r", ("find", ("file", "f"), literal("q", 2))),)
        self.assertEqual(influences_of((files, rules, (), (), ()), "r"), ((2, 0), (1, 0)))

    def test_a_target_with_an_error(self):
        self.assertEqual(influences_of(TREE, "bad"), ((4, 0), (0, 0), (0, 1)))
        self.assertEqual(influences_of(TREE, "loop"), ())

    def test_no_such_target(self):
        for tree in (TREE, EMPTY):
            with self.assertRaises(NoSuchTarget) as caught:
                influences_of(tree, "none")
            self.assertEqual(caught.exception.name, "none")
        self.assertEqual(influences_of(tree=TREE, target="loop"), ())


class RandomProvenanceTest(ProvenanceTest):

    def random_steps(self, rng, tree):
        """Return a path of the tree, or one with some steps changed, left out or added."""
        names = [name for name, _ in tree[1]] + ["z"]
        step = (rng.choice(("target", "target", "file", "literal")), rng.choice(names + ["a", "b"]), rng.randrange(4))
        steps = [step]
        while step is not None and step[0] == "target":
            step = slow_step(tree, step[1], step[2])
            steps.append(step)
        steps = [step for step in steps if step is not None]
        case = rng.randrange(5)
        if case == 1:
            steps = steps[:-1]
        if case == 2:
            steps.append(rng.choice(steps))
        if case == 3:
            place = rng.randrange(len(steps))
            steps[place] = (steps[place][0], steps[place][1], rng.randrange(3))
        if case == 4:
            steps = steps[1:]
        return tuple(steps)

    def test_against_slow_versions(self):
        rng = random.Random(200)
        valid = long = 0
        for number in range(300):
            tree = random_tree(rng) if number % 3 else random_whole_tree(rng, acyclic=number % 2 == 0)
            for name in ("r", "s", "t", "z"):
                if look(tree[1], name) is None:
                    self.check_errors(tree, name, 0, name)
                    continue
                (kind, value), read = slow_build(tree, name)
                self.assertEqual(influences_of(tree, name), once([c[1:] for c in read]))
                length = len(value) if kind == "text" else 0
                for index in sorted(set([0, 1, length - 1]) & set(range(length))):
                    self.assertEqual(copied_from(tree, name, index), slow_step(tree, name, index))
                    path = slow_path(tree, ("target", name, index))
                    long += len(path) > 2
                    self.assertEqual(path_of(tree, name, index), path)
                self.check_errors(tree, name, length, None)
            for _ in range(6):
                steps = self.random_steps(rng, tree)
                self.assertIs(is_path(tree, steps), slow_is_path(tree, steps))
                valid += slow_is_path(tree, steps)
            copies = []
            for name, _ in tree[1]:
                (kind, value), _ = slow_build(tree, name)
                if kind == "text":
                    copies.extend([(name, i) for i, c in enumerate(value) if c[1:] == (1, 2)])
            self.assertEqual(copies_of(tree, 1, 2), tuple(copies))
        self.assertGreater(valid, 50)
        self.assertGreater(long, 20)


if __name__ == "__main__":
    unittest.main()
