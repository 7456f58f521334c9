"""Tests with coins: points 123 and 124."""

import random
import unittest

from reference import random_whole_tree, slow_run_test
from shiptrace.coins import count_passes, decisive_coins, run_test, test_paths
from shiptrace.errors import NoSuchTest
from shiptrace.trees import EMPTY
from support import literal, stamped

FULL, NONE = literal("a", 1), ("literal", ())
FILES = (("a", stamped("xay", 1)), ("b", stamped("a", 2)))
RULES = (
    ("r", ("after", ("file", "a"), ("file", "b"))),
    ("s", ("concat", ("target", "r"), ("file", "m"))),
)


def tree_of(test, name="t"):
    tests = tuple(sorted([(name, test), ("other", NONE)]))
    return (FILES, RULES, tests, (), ())


def coin(number, first, second):
    return ("coin", number, first, second)


def slow_paths(runs):
    """Return the test paths in the order of the document."""
    paths = []
    for passes, flips, _ in runs:
        at = 0
        while at < len(paths) and (flips, passes) != paths[at] and not comes_before(flips, paths[at][0]):
            at += 1
        if at == len(paths) or paths[at] != (flips, passes):
            paths.insert(at, (flips, passes))
    return tuple(paths)


def comes_before(one, other):
    for flip, known in zip(one, other):
        if flip != known:
            assert flip[0] == known[0]
            return flip[1] == 0
    raise AssertionError("they do not differ")


def slow_decisive(runs):
    found = set()
    for low in range(8):
        for high in range(8):
            if runs[low][0] != runs[high][0] and (low ^ high) in (1, 2, 4):
                found.add({1: 0, 2: 1, 4: 2}[low ^ high])
    return tuple(sorted(found))


class CoinsTest(unittest.TestCase):

    def check_run(self, test, seed, passes, flips, read):
        result = run_test(tree_of(test), "t", seed)
        self.assertEqual(result, (passes, flips, read))
        self.assertIs(result[0], passes)
        self.assertEqual(slow_run_test(tree_of(test), test, seed), (passes, flips, read))

    def check_paths(self, test, paths, passes, decisive):
        tree = tree_of(test)
        self.assertEqual(test_paths(tree, "t"), paths)
        for _, passed in test_paths(tree, "t"):
            self.assertIsInstance(passed, bool)
        self.assertEqual(slow_paths([slow_run_test(tree, test, seed) for seed in range(8)]), paths)
        self.assertEqual(count_passes(tree, "t"), passes)
        self.assertEqual(type(count_passes(tree, "t")), int)
        self.assertEqual(decisive_coins(tree, "t"), decisive)

    def test_no_coins(self):
        for test, passes in ((FULL, True), (NONE, False), (("file", "m"), False), (("file", "a"), True)):
            for seed in range(8):
                self.check_run(test, seed, passes, (), ())
            self.check_paths(test, (((), passes),), 8 if passes else 0, ())

    def test_flips_under_each_seed(self):
        test = coin(2, coin(0, FULL, FULL), coin(1, FULL, FULL))
        flips = [run_test(tree_of(test), "t", seed)[1] for seed in range(8)]
        self.assertEqual(flips, [
            ((2, 0), (0, 0)), ((2, 0), (0, 1)), ((2, 0), (0, 0)), ((2, 0), (0, 1)),
            ((2, 1), (1, 0)), ((2, 1), (1, 0)), ((2, 1), (1, 1)), ((2, 1), (1, 1)),
        ])
        self.check_paths(test, (
            (((2, 0), (0, 0)), True), (((2, 0), (0, 1)), True), (((2, 1), (1, 0)), True), (((2, 1), (1, 1)), True),
        ), 8, ())

    def test_flips_without_repetitions(self):
        test = ("concat", coin(1, NONE, NONE), ("concat", coin(0, NONE, FULL), coin(1, FULL, NONE)))
        self.check_run(test, 2, False, ((1, 1), (0, 0)), ())
        self.check_run(test, 0, True, ((1, 0), (0, 0)), ())
        self.check_paths(test, (
            (((1, 0), (0, 0)), True), (((1, 0), (0, 1)), True), (((1, 1), (0, 0)), False), (((1, 1), (0, 1)), True),
        ), 6, (0, 1))

    def test_a_coin_inside_itself(self):
        self.check_paths(coin(0, coin(0, FULL, NONE), coin(0, FULL, NONE)), (
            (((0, 0),), True), (((0, 1),), False),
        ), 4, (0,))

    def test_the_example_of_the_document(self):
        test = coin(0, coin(1, FULL, NONE), FULL)
        self.check_paths(test, ((((0, 0), (1, 0)), True), (((0, 0), (1, 1)), False), (((0, 1),), True)), 6, (0, 1))
        self.check_run(test, 6, False, ((0, 0), (1, 1)), ())
        self.assertEqual(run_test(tree=tree_of(test), name="t", seed=6), (False, ((0, 0), (1, 1)), ()))

    def test_a_coin_that_decides_under_one_setting_only(self):
        # Coin 2 matters only if the other two show 1.
        test = coin(0, FULL, coin(1, FULL, coin(2, FULL, NONE)))
        self.check_paths(test, (
            (((0, 0),), True), (((0, 1), (1, 0)), True), (((0, 1), (1, 1), (2, 0)), True),
            (((0, 1), (1, 1), (2, 1)), False),
        ), 7, (0, 1, 2))
        self.check_paths(coin(1, coin(2, FULL, FULL), coin(2, NONE, FULL)), (
            (((1, 0), (2, 0)), True), (((1, 0), (2, 1)), True), (((1, 1), (2, 0)), False), (((1, 1), (2, 1)), True),
        ), 6, (1, 2))

    def test_a_coin_that_is_flipped_and_not_decisive(self):
        self.check_paths(coin(2, coin(1, FULL, NONE), coin(1, FULL, NONE)), (
            (((2, 0), (1, 0)), True), (((2, 0), (1, 1)), False), (((2, 1), (1, 0)), True), (((2, 1), (1, 1)), False),
        ), 4, (1,))

    def test_characters_that_are_read(self):
        read = (("a", 2, 0), ("x", 1, 0), ("a", 1, 1))
        self.check_run(("target", "r"), 0, True, (), read)
        self.check_run(("concat", ("dynamic file", literal("zz", 4)), ("target", "r")), 0, True, (), stamped("zz", 4) + read)
        test = ("concat", ("find", ("file", "a"), literal("x", 4)), ("concat", ("target", "r"), ("target", "r")))
        self.check_run(test, 0, True, (), (("x", 4, 0), ("x", 1, 0)) + read[:1] + read[2:])
        self.check_run(coin(0, ("target", "r"), FULL), 1, True, ((0, 1),), ())

    def test_characters_before_an_error(self):
        read = (("a", 2, 0), ("x", 1, 0), ("a", 1, 1))
        self.check_run(("concat", ("target", "s"), ("dynamic file", literal("zz", 4))), 0, False, (), read)
        self.check_run(("target", "m"), 0, False, (), ())
        self.check_run(coin(1, ("file", "m"), FULL), 0, False, ((1, 0),), ())

    def test_characters_with_one_origin(self):
        text = (("p", 3, 3), ("q", 3, 3), ("p", 3, 3))
        self.check_run(("dynamic file", ("literal", text)), 0, False, (), text[:2])

    def test_a_test_that_does_not_exist(self):
        for tree in (EMPTY, tree_of(FULL), tree_of(FULL, "r")):
            for call in (lambda: run_test(tree, "m", 0), lambda: test_paths(tree, "m"), lambda: count_passes(tree, "m"),
                         lambda: decisive_coins(tree, "m")):
                with self.assertRaises(NoSuchTest) as caught:
                    call()
                self.assertEqual(caught.exception.name, "m")

    def test_rules_are_no_tests(self):
        with self.assertRaises(NoSuchTest):
            run_test(tree_of(FULL), "r", 0)

    def test_many_tests(self):
        rng = random.Random(123)
        for number in range(400):
            tree = random_whole_tree(rng, 3, number % 2 == 0)
            for name, test in tree[2]:
                runs = [slow_run_test(tree, test, seed) for seed in range(8)]
                self.assertEqual([run_test(tree, name, seed) for seed in range(8)], runs)
                self.assertEqual(test_paths(tree, name), slow_paths(runs))
                self.assertEqual(count_passes(tree, name), [run[0] for run in runs].count(True))
                self.assertEqual(decisive_coins(tree, name), slow_decisive(runs))


if __name__ == "__main__":
    unittest.main()
