"""Building: points 82 to 84."""

import random
import unittest

from reference import TARGETS, once, random_tree, slow_build, slow_environment
from shiptrace.building import Builder, build, environment_of
from shiptrace.errors import BuildFailed
from support import is_plain, literal, stamped

FILES = (("a", stamped("xay", 1)), ("b", stamped("a", 2)))
BEFORE = ("before", ("file", "a"), ("file", "b"))
AFTER = ("after", ("file", "a"), ("file", "b"))
BUILD_ERRORS = (("missing file", "m"), ("missing target", "m"), ("cycle", "c"), ("too long",))


def tree_of(*rules):
    return (FILES, tuple(sorted(rules)), (), (), ())


def chain(length):
    """Return a tree in which each target is made of the next one, named three times."""
    rules = []
    for number in range(length - 1):
        following = ("target", "t%02d" % (number + 1))
        rules.append(("t%02d" % number, ("concat", ("slice", following, 0, 1), ("find", following, following))))
    return tree_of(*rules, ("t%02d" % (length - 1), AFTER))


class BuildTest(unittest.TestCase):

    def check_build(self, tree, target, result, read):
        self.assertEqual(build(tree, target), (result, read))
        self.assertTrue(is_plain(build(tree, target)))
        reference, characters = slow_build(tree, target)
        self.assertEqual((reference, once(characters)), (result, read))

    def test_a_rule_that_reads_a_target(self):
        tree = tree_of(("r", BEFORE), ("s", ("concat", ("target", "r"), AFTER)))
        read = (("a", 2, 0), ("x", 1, 0), ("a", 1, 1))
        self.check_build(tree, "r", ("text", (("x", 1, 0),)), read)
        self.check_build(tree, "s", ("text", (("x", 1, 0), ("y", 1, 2))), read)
        self.assertEqual(build(tree=tree, target="r")[1], read)

    def test_a_target_without_a_rule(self):
        self.check_build(tree_of(), "r", ("error", ("missing target", "r")), ())
        tree = tree_of(("r", ("concat", AFTER, ("target", "m"))))
        self.check_build(tree, "r", ("error", ("missing target", "m")), (("a", 2, 0), ("x", 1, 0), ("a", 1, 1)))

    def test_a_target_that_reads_itself(self):
        tree = tree_of(("r", ("concat", BEFORE, ("target", "r"))))
        self.check_build(tree, "r", ("error", ("cycle", "r")), (("a", 2, 0), ("x", 1, 0), ("a", 1, 1)))

    def test_the_first_active_target_ends_the_build(self):
        # From r, the target s is read twice: s reads t, which reads s again.
        tree = tree_of(
            ("r", ("concat", ("target", "s"), ("target", "r"))),
            ("s", ("concat", ("dynamic file", ("file", "b")), ("target", "t"))),
            ("t", ("concat", ("dynamic file", literal("q", 9)), ("concat", ("target", "s"), ("target", "t")))),
        )
        self.check_build(tree, "r", ("error", ("cycle", "s")), (("a", 2, 0), ("q", 9, 0)))
        self.check_build(tree, "s", ("error", ("cycle", "s")), (("a", 2, 0), ("q", 9, 0)))
        self.check_build(tree, "t", ("error", ("cycle", "t")), (("q", 9, 0), ("a", 2, 0)))

    def test_a_reference_that_is_not_read_leads_into_no_cycle(self):
        tree = tree_of(
            ("r", ("if", ("file", "a"), ("target", "s"), ("target", "r"))),
            ("s", ("if", literal(""), ("target", "r"), ("file", "b"))),
        )
        self.check_build(tree, "r", ("text", stamped("a", 2)), ())

    def test_a_target_is_read_again_when_it_is_no_longer_active(self):
        tree = tree_of(("r", ("concat", ("target", "s"), ("target", "s"))), ("s", AFTER))
        read = (("a", 2, 0), ("x", 1, 0), ("a", 1, 1))
        self.check_build(tree, "r", ("text", (("y", 1, 2),) * 2), read)

    def test_characters_come_at_their_first_reading(self):
        tree = tree_of(
            ("p", ("dynamic file", literal("12", 5))),
            ("q", ("dynamic file", literal("321", 5))),
            ("r", ("concat", ("dynamic file", literal("4", 5, 3)), ("concat", ("target", "p"), ("target", "q")))),
        )
        first = (("4", 5, 3), ("1", 5, 0), ("2", 5, 1))
        self.check_build(tree, "r", ("text", ()), first + (("3", 5, 0), ("1", 5, 2)))

    def test_characters_with_one_origin(self):
        # Three equal ones, and two that differ in the sign alone.
        text = (("a", 5, 5), ("b", 5, 5), ("a", 5, 5), ("a", 5, 6), ("a", 5, 5))
        tree = tree_of(("r", ("dynamic file", ("literal", text))))
        self.check_build(tree, "r", ("text", ()), (("a", 5, 5), ("b", 5, 5), ("a", 5, 6)))

    def test_what_was_read_before_an_error(self):
        bad = ("concat", ("dynamic file", literal("z", 8)), ("file", "m"))
        tree = tree_of(("r", ("concat", AFTER, ("concat", ("target", "s"), ("dynamic file", literal("n"))))), ("s", bad))
        read = (("a", 2, 0), ("x", 1, 0), ("a", 1, 1), ("z", 8, 0))
        self.check_build(tree, "r", ("error", ("missing file", "m")), read)

    def test_too_long(self):
        text = ("concat", literal("a" * 120), ("target", "s"))
        tree = tree_of(("r", text), ("s", AFTER))
        self.check_build(tree, "r", ("error", ("too long",)), (("a", 2, 0), ("x", 1, 0), ("a", 1, 1)))

    def test_many_trees(self):
        rng = random.Random(82)
        for number in range(700):
            tree = random_tree(rng, 3, number % 2 == 0)
            builder = Builder(tree)
            for target in TARGETS + ("z",):
                result, characters = slow_build(tree, target)
                self.assertEqual(build(tree, target), (result, once(characters)), tree)
                self.check_builder(builder, target, result, once(characters))
            texts = [name for name, _ in tree[1] if slow_build(tree, name)[0][0] == "text"]
            self.assertEqual(len(builder), len(texts))
            self.assertEqual(environment_of(tree), slow_environment(tree))

    def check_builder(self, builder, target, result, read):
        if result[0] == "text":
            self.assertEqual(builder.build(target), (result[1], read))
        else:
            with self.assertRaises(BuildFailed) as caught:
                builder.build(target)
            self.assertEqual(caught.exception.error, result[1])
        self.assertEqual(builder.active, ())

    def test_long_chains(self):
        tree = chain(24)
        result, read = build(tree, "t00")
        self.assertEqual(result, ("text", (("y", 1, 2),) * 24))
        self.assertEqual(read, (("a", 2, 0), ("x", 1, 0), ("a", 1, 1), ("y", 1, 2)))


class BuilderTest(unittest.TestCase):

    def test_a_new_builder(self):
        builder = Builder(tree_of(("r", AFTER)))
        self.assertEqual((len(builder), builder.active), (0, ()))
        self.assertEqual(Builder(tree=tree_of()).active, ())

    def test_texts_and_characters(self):
        builder = Builder(tree_of(("r", BEFORE), ("s", ("concat", ("target", "r"), AFTER))))
        read = (("a", 2, 0), ("x", 1, 0), ("a", 1, 1))
        expected = ((("x", 1, 0), ("y", 1, 2)), read)
        self.assertEqual(builder.build(target="s"), expected)
        self.assertTrue(is_plain(builder.build("s")))
        self.assertEqual(builder.build("r"), ((("x", 1, 0),), read))
        self.assertEqual(builder.build("s"), expected)

    def test_the_number_of_targets(self):
        builder = Builder(chain(24))
        builder.build("t22")
        self.assertEqual(len(builder), 2)
        builder.build("t22")
        builder.build("t23")
        self.assertEqual(len(builder), 2)
        builder.build("t00")
        self.assertEqual(len(builder), 24)
        self.assertEqual(builder.active, ())

    def check_failure(self, builder, target, error, many):
        with self.assertRaises(BuildFailed) as caught:
            builder.build(target)
        self.assertEqual(caught.exception.error, error)
        self.assertEqual((builder.active, len(builder)), ((), many))

    def test_each_error(self):
        rules = (("c", ("target", "c")), ("f", ("file", "m")), ("l", ("concat", literal("a" * 120), AFTER)))
        builder = Builder(tree_of(*rules))
        for target, error in zip("fmcl", BUILD_ERRORS):
            self.check_failure(builder, target, error, 0)

    def test_after_an_error(self):
        builder = Builder(tree_of(
            ("good", AFTER),
            ("r", ("concat", ("target", "good"), ("target", "s"))),
            ("s", ("concat", ("target", "also"), ("target", "r"))),
            ("also", BEFORE),
        ))
        # Which target closes the cycle depends on where the build begins.
        self.check_failure(builder, "r", ("cycle", "r"), 2)
        self.check_failure(builder, "s", ("cycle", "s"), 2)
        self.check_failure(builder, "r", ("cycle", "r"), 2)
        self.assertEqual(builder.build("good")[0], (("y", 1, 2),))
        self.check_failure(builder, "m", ("missing target", "m"), 2)
        self.assertEqual(builder.build("also")[0], (("x", 1, 0),))
        self.assertEqual(len(builder), 2)

    def test_a_target_that_was_met_inside_another_one(self):
        builder = Builder(tree_of(("r", ("target", "s")), ("s", ("file", "m"))))
        self.check_failure(builder, "r", ("missing file", "m"), 0)
        self.check_failure(builder, "s", ("missing file", "m"), 0)

    def test_the_empty_text_counts(self):
        builder = Builder(tree_of(("r", literal(""))))
        self.assertEqual(builder.build("r"), ((), ()))
        self.assertEqual(len(builder), 1)

    def test_targets_are_active_in_the_order_in_which_they_began(self):
        seen = []

        class Watched(tuple):
            """The files of a tree, which tell who is active when they are looked at."""

            def __iter__(self):
                seen.append(builder.active)
                return tuple.__iter__(self)

        tree = tree_of(("r", ("target", "q")), ("q", ("target", "s")), ("s", AFTER))
        builder = Builder((Watched(FILES),) + tree[1:])
        builder.build("r")
        self.assertTrue(seen)
        self.assertEqual(once(seen), (("r", "q", "s"),))
        self.assertEqual(builder.active, ())


class EnvironmentTest(unittest.TestCase):

    def test_all_seeds(self):
        coins = [environment_of(((), (), (), (), ()), seed)[2] for seed in range(8)]
        self.assertEqual(coins, [
            (0, 0, 0), (1, 0, 0), (0, 1, 0), (1, 1, 0), (0, 0, 1), (1, 0, 1), (0, 1, 1), (1, 1, 1),
        ])
        self.assertEqual(environment_of(((), (), (), (), ())), ((), (), (0, 0, 0)))
        self.assertEqual(environment_of(tree=((), (), (), (), ()), seed=4), ((), (), (0, 0, 1)))

    def test_files_and_targets(self):
        tree = tree_of(("a", ("target", "b")), ("b", ("target", "a")), ("r", ("target", "a")), ("s", BEFORE))
        expected = (FILES, (
            ("a", ("error", ("cycle", "a"))), ("b", ("error", ("cycle", "b"))), ("r", ("error", ("cycle", "a"))),
            ("s", ("text", (("x", 1, 0),))),
        ), (1, 1, 0))
        self.assertEqual(environment_of(tree, 3), expected)
        self.assertEqual(slow_environment(tree, 3), expected)
        self.assertTrue(is_plain(environment_of(tree, 3)))


if __name__ == "__main__":
    unittest.main()
