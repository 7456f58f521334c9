"""Caches: points 104 to 106."""

import random
import unittest

from reference import TARGETS, random_environment, random_expression, random_tree, slow_build, slow_environment
from reference import slow_evaluate, slow_trace
from shiptrace.cache import Cache
from shiptrace.errors import DependencyCycle
from shiptrace.expressions import shape_of
from shiptrace.graph import build_order, find_cycle
from shiptrace.traces import is_valid, replay
from support import is_plain, literal, stamped

HERE = ((("a", stamped("x", 1)), ("b", stamped("y", 1, 1))), (), (0, 0, 0))
THERE = ((("a", stamped("xy", 2)),), (), (0, 0, 0))
NAMES = "pqrstuvw"


def entry(expression, environment):
    return shape_of(expression), slow_trace(expression, environment)


class SlowCache:
    """A cache whose entries stand with the oldest first."""

    def __init__(self, size):
        self.size = size
        self.kept = []

    def evaluate(self, expression, environment):
        valid = [e for e in self.kept if e[0] == shape_of(expression) and is_valid(e[1], expression, environment)]
        if valid:
            return replay(valid[-1][1], expression, environment), False
        self.kept.append(entry(expression, environment))
        while len(self.kept) > self.size:
            self.kept.pop(0)
        return slow_evaluate(expression, environment)[0], True

    def build(self, tree, targets):
        results = {}
        executed = []
        for name in build_order(tree, targets):
            environment = (tree[0], tuple([(n, results[n]) for n in sorted(results)]), (0, 0, 0))
            results[name], new = self.evaluate(dict(tree[1])[name], environment)
            executed.extend([name] * new)
        return tuple([(n, results[n]) for n in sorted(results)]), tuple(executed)


class CacheTest(unittest.TestCase):

    def check(self, cache, expression, environment, executed):
        result = cache.evaluate(expression, environment)
        self.assertEqual(result, (slow_evaluate(expression, environment)[0], executed))
        self.assertIs(result[1], executed)
        self.assertTrue(is_plain(result[0]))
        self.assertEqual(len(cache), len(list(cache)))

    def test_a_new_cache(self):
        cache = Cache(3)
        self.assertEqual((cache.size, len(cache), list(cache)), (3, 0, []))
        self.assertEqual(Cache(size=0).size, 0)

    def test_an_entry_is_used_again(self):
        cache = Cache(3)
        self.check(cache, ("file", "a"), HERE, True)
        self.assertEqual(list(cache), [entry(("file", "a"), HERE)])
        self.assertTrue(is_plain(tuple(cache)))
        self.check(cache, ("file", "a"), HERE, False)
        self.assertEqual(len(cache), 1)
        self.assertEqual(cache.evaluate(expression=("file", "a"), environment=HERE)[1], False)
        self.check(cache, ("file", "b"), HERE, True)
        self.check(cache, ("file", "a"), THERE, True)
        self.assertEqual(list(cache), [
            entry(("file", "a"), THERE), entry(("file", "b"), HERE), entry(("file", "a"), HERE),
        ])

    def test_origins_are_those_of_the_environment(self):
        cache = Cache(3)
        self.check(cache, ("concat", ("file", "a"), literal("p", 1)), HERE, True)
        moved = ((("a", stamped("z", 8)),), (), (1, 1, 1))
        expression = ("concat", ("file", "a"), literal("q", 3))
        self.assertEqual(cache.evaluate(expression, moved), (("text", stamped("z", 8) + stamped("q", 3)), False))

    def test_size_zero(self):
        cache = Cache(0)
        for _ in range(2):
            self.check(cache, ("file", "a"), HERE, True)
            self.assertEqual((len(cache), list(cache)), (0, []))

    def test_the_oldest_entries_go(self):
        cache = Cache(2)
        for number in range(4):
            self.check(cache, literal("a" * number), HERE, True)
        self.assertEqual(list(cache), [entry(literal("aaa"), HERE), entry(literal("aa"), HERE)])
        self.assertEqual(len(cache), 2)

    def test_replaying_does_not_make_an_entry_newer(self):
        cache = Cache(2)
        self.check(cache, literal("a"), HERE, True)
        self.check(cache, literal("aa"), HERE, True)
        self.check(cache, literal("b"), HERE, False)
        self.assertEqual(list(cache), [entry(literal("aa"), HERE), entry(literal("a"), HERE)])
        self.check(cache, literal(""), HERE, True)
        self.check(cache, literal("a"), HERE, True)
        self.assertEqual(list(cache), [entry(literal("a"), HERE), entry(literal(""), HERE)])

    def test_an_entry_that_is_added_again(self):
        # The older entry for a is valid no longer when b comes in between; later it is added again.
        cache = Cache(3)
        self.check(cache, ("file", "a"), HERE, True)
        self.check(cache, ("file", "a"), THERE, True)
        self.check(cache, ("file", "b"), HERE, True)
        self.check(cache, ("file", "b"), THERE, True)
        self.check(cache, ("file", "a"), HERE, True)
        self.check(cache, ("file", "a"), THERE, True)
        self.assertEqual(list(cache), [
            entry(("file", "a"), THERE), entry(("file", "a"), HERE), entry(("file", "b"), THERE),
        ])

    def test_the_newest_valid_entry_decides(self):
        # Two entries of the same shape that are both valid, with different outputs in other places.
        flip = ("if", ("coin", 0, ("file", "a"), ("file", "e")), literal("1"), literal("2"))
        files = (("a", stamped("x")), ("e", ()))
        cache = Cache(4)
        for coins in ((0, 0, 0), (1, 0, 0)):
            self.check(cache, flip, (files, (), coins), True)
        for coins in ((0, 1, 0), (1, 1, 1)):
            self.check(cache, flip, (files, (), coins), False)
        self.assertEqual(len(cache), 2)

    def test_several_valid_entries(self):
        # As each trace fits what was read, several valid entries of one shape are made by hand.
        read = ("file", "a", 1)
        shape = ("concat", ("file", "a"), ("literal", 1))
        cache = Cache(3)
        cache.entries = [
            (shape, ((("file", "a", 2),), ("copy", ()))),
            (("file", "a"), ((read,), ("copy", ()))),
            (shape, ((read,), ("copy", (("literal", 0),)))),
            (shape, ((read,), ("copy", (("file", "a", 0),)))),
        ]
        result = cache.evaluate(("concat", ("file", "a"), literal("p", 3)), HERE)
        self.assertEqual(result, (("text", stamped("p", 3)), False))

    def test_another_shape_with_the_same_trace(self):
        cache = Cache(5)
        self.check(cache, ("file", "a"), HERE, True)
        self.check(cache, ("optional file", "a"), HERE, True)
        self.check(cache, ("slice", ("file", "a"), 0, 1), HERE, True)
        self.check(cache, ("slice", ("file", "a"), 0, 2), HERE, True)
        self.assertEqual(len(cache), 4)
        self.assertEqual(len([trace for _, trace in cache if trace == list(cache)[0][1]]), 4)

    def test_errors_are_kept(self):
        cache = Cache(5)
        self.check(cache, ("file", "m"), HERE, True)
        self.check(cache, ("file", "m"), THERE, False)

    def test_copies(self):
        cache = Cache(2)
        self.check(cache, ("file", "a"), HERE, True)
        other = cache.copy()
        self.assertIsInstance(other, Cache)
        self.assertEqual((other.size, list(other)), (2, list(cache)))
        self.check(other, ("file", "a"), HERE, False)
        self.check(other, ("file", "b"), HERE, True)
        self.assertEqual((len(cache), len(other)), (1, 2))
        self.check(cache, ("file", "m"), HERE, True)
        self.check(cache, literal(""), HERE, True)
        self.assertEqual(list(other), [entry(("file", "b"), HERE), entry(("file", "a"), HERE)])
        self.assertEqual(list(cache), [entry(literal(""), HERE), entry(("file", "m"), HERE)])

    def test_iterating_changes_nothing(self):
        cache = Cache(3)
        for path in "abm":
            self.check(cache, ("file", path), HERE, True)
        self.assertEqual([shape for shape, _ in cache], [("file", "m"), ("file", "b"), ("file", "a")])
        self.assertEqual(list(cache), list(cache))
        first, *_ = cache
        self.assertEqual(first, entry(("file", "m"), HERE))

    def test_many_evaluations(self):
        rng = random.Random(105)
        seen = [0, 0]
        for size in (0, 1, 2, 3, 5, 9):
            cache = Cache(size)
            slow = SlowCache(size)
            expressions = [random_expression(rng, 3, True) for _ in range(6)]
            environments = [random_environment(rng) for _ in range(4)]
            for _ in range(120):
                expression = rng.choice(expressions)
                environment = tuple([rng.choice(environments)[place] for place in range(3)])
                expected = slow.evaluate(expression, environment)
                self.assertEqual(cache.evaluate(expression, environment), expected)
                self.assertEqual(list(cache), slow.kept[::-1])
                seen[expected[1]] += 1
        self.assertTrue(min(seen) > 50, seen)


class CacheBuildTest(unittest.TestCase):

    RULES = (
        ("p", ("concat", ("target", "q"), ("target", "m"))),
        ("q", ("concat", ("file", "a"), ("target", "r"))),
        ("r", ("find", ("file", "a"), ("file", "b"))),
        ("s", ("find", ("file", "a"), ("file", "b"))),
    )
    TREE = ((("a", stamped("xy", 1)), ("b", stamped("y", 2))), RULES, (), (), ())

    def test_targets_in_the_build_order(self):
        cache = Cache(9)
        r = ("text", (("y", 1, 1),))
        q = ("text", stamped("xy", 1) + (("y", 1, 1),))
        results, executed = cache.build(self.TREE, ("p", "m", "q", "p"))
        expected = (("p", ("error", ("missing target", "m"))), ("q", q), ("r", r))
        self.assertEqual((results, executed), (expected, ("r", "q", "p")))
        self.assertTrue(is_plain((results, executed)))
        self.assertEqual([shape for shape, _ in cache], [shape_of(dict(self.RULES)[name]) for name in "pqr"])
        # The rule of s has the shape of that of r.
        self.assertEqual(cache.build(tree=self.TREE, targets=("s", "q")), ((("q", q), ("r", r), ("s", r)), ()))
        self.assertEqual(len(cache), 3)

    def test_equal_rules_share_their_entry_at_once(self):
        cache = Cache(9)
        self.assertEqual(cache.build(self.TREE, ("s", "r"))[1], ("r",))

    def test_size_zero(self):
        cache = Cache(0)
        for _ in range(2):
            self.assertEqual(cache.build(self.TREE, ("s", "q"))[1], ("r", "s", "q"))
        self.assertEqual(len(cache), 0)

    def test_no_targets(self):
        cache = Cache(2)
        self.assertEqual(cache.build(self.TREE, ()), ((), ()))
        self.assertEqual(cache.build(self.TREE, ("m",)), ((), ()))
        self.assertEqual(len(cache), 0)

    def test_a_cycle_leaves_the_entries_as_they_are(self):
        cache = Cache(3)
        cache.build(self.TREE, ("q",))
        before = list(cache)
        tree = self.TREE[:1] + (self.RULES + (("t", ("target", "u")), ("u", ("target", "u"))),) + self.TREE[2:]
        with self.assertRaises(DependencyCycle) as caught:
            cache.build(tree, ("p", "s"))
        self.assertEqual(caught.exception.target, "t")
        self.assertEqual(list(cache), before)

    def test_many_trees(self):
        rng = random.Random(106)
        for size in (0, 2, 4, 40):
            cache = Cache(size)
            slow = SlowCache(size)
            rules = [random_tree(rng, 3, True)[1] for _ in range(2)]
            for _ in range(60):
                tree = (random_tree(rng)[0], rng.choice(rules), (), (), ())
                targets = tuple(rng.choices(TARGETS + ("z",), k=rng.randrange(4)))
                self.assertIsNone(find_cycle(tree))
                expected = slow.build(tree, targets)
                self.assertEqual(cache.build(tree, targets), expected)
                self.assertEqual(list(cache), slow.kept[::-1])
                for name, result in expected[0]:
                    self.assertEqual(result, slow_build(tree, name)[0])
                self.assertEqual([pair for pair in slow_environment(tree)[1] if pair in expected[0]], list(expected[0]))


if __name__ == "__main__":
    unittest.main()
