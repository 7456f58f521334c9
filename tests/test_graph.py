"""Dependencies: points 85 to 87."""

import random
import unittest

from reference import all_parts
from shiptrace.errors import DependencyCycle, NoSuchTarget
from shiptrace.graph import build_order, dependencies_of, find_cycle, rank_of, waves
from support import is_plain, literal

NAMES = ("a", "b", "c", "d", "e", "f")


def joined(names):
    """Return a rule that references these targets, in this order."""
    rule = ("literal", ())
    for name in reversed(names):
        rule = ("concat", ("target", name), rule)
    return rule


def tree_of(**references):
    """Return a tree with a rule for each word: a string of the names that it references."""
    rules = tuple([(name, joined(references[name])) for name in sorted(references)])
    return ((), rules, (), (), ())


def chains(tree, length):
    """Return all chains of this length, as tuples of names."""
    rules = dict(tree[1])
    found = [(name,) for name in rules]
    for _ in range(length):
        found = [
            chain + (part[1],) for chain in found for part in all_parts(rules[chain[-1]])
            if part[0] == "target" and part[1] in rules
        ]
    return sorted(set(found))


def slow_cycle(tree):
    starts = [chain[0] for chain in chains(tree, len(tree[1]))]
    return min(starts, default=None)


def slow_rank(tree, target):
    return max([length for length in range(len(tree[1])) if target in [chain[0] for chain in chains(tree, length)]])


def slow_order(tree, targets):
    needed = set()
    for length in range(len(tree[1]) + 1):
        needed.update([chain[-1] for chain in chains(tree, length) if chain[0] in targets])
    return tuple(sorted(needed, key=lambda name: (slow_rank(tree, name), name)))


def slow_waves(tree, targets, workers):
    steps = chains(tree, 1)
    order = slow_order(tree, targets)
    built = []
    found = []
    while len(built) < len(order):
        wave = []
        for name in order:
            if name not in built and all([u in built for t, u in steps if t == name]) and len(wave) < workers:
                wave.append(name)
        built.extend(wave)
        found.append(tuple(wave))
    return tuple(found)


class GraphTest(unittest.TestCase):

    def check_cycle(self, tree, target):
        self.assertEqual(find_cycle(tree), target)
        for call in (
            lambda: rank_of(tree, "a"), lambda: rank_of(tree, "zz"), lambda: build_order(tree, ()),
            lambda: build_order(tree, ("a",)), lambda: waves(tree, (), 1),
        ):
            with self.assertRaises(DependencyCycle) as caught:
                call()
            self.assertEqual(caught.exception.target, target)

    def test_dependencies(self):
        tree = tree_of(a="cxbcb", b="", c="c")
        self.assertEqual(dependencies_of(tree, "a"), ("c", "b"))
        self.assertEqual(dependencies_of(tree, "b"), ())
        self.assertEqual(dependencies_of(tree, "c"), ("c",))
        self.assertEqual(dependencies_of(tree=tree, target="x"), ())

    def test_dependencies_in_parts_that_are_not_evaluated(self):
        rule = ("if", literal(""), ("replace all", ("target", "d"), ("target", "b"), ("target", "c")), ("target", "a"))
        tree = ((), (("a", rule), ("b", literal("")), ("c", literal("")), ("d", literal(""))), (), (), ())
        self.assertEqual(dependencies_of(tree, "a"), ("d", "b", "c", "a"))

    def test_cycles(self):
        self.check_cycle(tree_of(a="a"), "a")
        self.check_cycle(tree_of(a="", b="c", c="b"), "b")
        self.check_cycle(tree_of(a="", b="c", c="d", d="c"), "b")
        self.check_cycle(tree_of(a="b", b="c", c="d", d="d"), "a")
        self.check_cycle(tree_of(a="b", b="", c="d", d="c"), "c")

    def test_no_cycle(self):
        for tree in (tree_of(), tree_of(a="bcx", b="c", c=""), tree_of(a="", b="a", c="ab")):
            self.assertIsNone(find_cycle(tree))

    def test_a_reference_without_a_rule_closes_no_cycle(self):
        tree = tree_of(a="b", b="c")
        self.assertIsNone(find_cycle(tree))
        self.assertEqual((rank_of(tree, "a"), rank_of(tree, "b")), (1, 0))

    def test_ranks(self):
        tree = tree_of(a="", b="a", c="ab", d="ac", e="ax")
        self.assertEqual([rank_of(tree, name) for name in "abcde"], [0, 1, 2, 3, 1])
        with self.assertRaises(NoSuchTarget) as caught:
            rank_of(tree=tree, target="x")
        self.assertEqual(caught.exception.name, "x")

    def test_build_order(self):
        tree = tree_of(a="f", b="a", c="", d="bc", e="c", f="")
        self.assertEqual(build_order(tree, ("d",)), ("c", "f", "a", "b", "d"))
        self.assertEqual(build_order(tree, ("e", "a")), ("c", "f", "a", "e"))
        self.assertEqual(build_order(tree=tree, targets=("c", "f", "c")), ("c", "f"))
        self.assertEqual(build_order(tree, ("x", "a", "y", "x", "a")), ("f", "a"))
        self.assertEqual(build_order(tree, ()), ())
        self.assertEqual(build_order(tree, ("x",)), ())

    def test_waves(self):
        tree = tree_of(a="f", b="a", c="", d="bc", e="c", f="")
        self.assertEqual(waves(tree, tuple(NAMES), 1), (("c",), ("f",), ("a",), ("e",), ("b",), ("d",)))
        self.assertEqual(waves(tree, tuple(NAMES), 2), (("c", "f"), ("a", "e"), ("b",), ("d",)))
        self.assertEqual(waves(tree=tree, targets=("d", "d"), workers=9), (("c", "f"), ("a",), ("b",), ("d",)))
        self.assertEqual(waves(tree, ("x",), 1), ())
        self.assertEqual(waves(tree, (), 3), ())

    def test_a_wave_skips_what_is_not_ready(self):
        # The ranks of c and d are 1, but in the second wave only d is ready.
        tree = tree_of(a="", b="", c="b", d="a", e="d")
        self.assertEqual(waves(tree, ("c", "e"), 1), (("a",), ("b",), ("c",), ("d",), ("e",)))
        tree = tree_of(a="", b="", c="", d="c", e="a", f="e")
        self.assertEqual(waves(tree, tuple(NAMES), 2), (("a", "b"), ("c", "e"), ("d", "f")))

    def test_many_targets(self):
        names = ["t%02d" % number for number in range(24)]
        rules = [(name, joined(names[number + 1:])) for number, name in enumerate(names)]
        tree = ((), tuple(rules), (), (), ())
        order = tuple(reversed(names))
        self.assertEqual(build_order(tree, ("t00",)), order)
        self.assertEqual(rank_of(tree, "t00"), 23)
        self.assertEqual(waves(tree, ("t00",), 30), tuple([(name,) for name in order]))
        flat = ((), tuple([(name, literal("")) for name in names]), (), (), ())
        self.assertEqual(waves(flat, order, 30), (tuple(names),))
        self.assertEqual(waves(flat, order, 23), (tuple(names[:23]), ("t23",)))
        cyclic = ((), tuple(rules[:-1] + [("t23", ("target", "t05"))]), (), (), ())
        self.check_cycle(cyclic, "t00")

    def test_many_trees(self):
        rng = random.Random(85)
        seen = [0, 0]
        for _ in range(400):
            words = {name: rng.sample(NAMES, rng.choice((0, 0, 1, 1, 2))) for name in NAMES if rng.randrange(6)}
            tree = tree_of(**words)
            cycle = slow_cycle(tree)
            seen[cycle is None] += 1
            if cycle is not None:
                self.check_cycle(tree, cycle)
                continue
            self.assertIsNone(find_cycle(tree))
            for name in words:
                self.assertEqual(rank_of(tree, name), slow_rank(tree, name))
            targets = tuple(rng.choices(NAMES, k=rng.randrange(4)))
            self.assertEqual(build_order(tree, targets), slow_order(tree, targets))
            for workers in (1, 2, 3, 9):
                result = waves(tree, targets, workers)
                self.assertEqual(result, slow_waves(tree, targets, workers))
                self.assertTrue(is_plain(result))
        self.assertTrue(min(seen) > 50, seen)


if __name__ == "__main__":
    unittest.main()
