"""Checks: points 125 to 127."""

import random
import unittest

from reference import SEEDS, once, random_whole_tree, slow_build, slow_run_test
from shiptrace.cache import Cache
from shiptrace.checks import all_problems, check_with, first_problem, read_by_check
from shiptrace.expressions import references_of
from shiptrace.graph import find_cycle
from shiptrace.trees import EMPTY
from support import is_plain, literal, stamped

FULL, NONE = literal("a", 1), ("literal", ())
FILES = (("a", stamped("xay", 1)), ("b", stamped("a", 2)))
RULES = (
    ("r", ("after", ("file", "a"), ("file", "b"))),
    ("s", ("concat", ("target", "r"), ("file", "m"))),
    ("u", ("before", ("file", "b"), ("file", "a"))),
)
ALWAYS = ("always",)
SOMETIMES = ("coin", 0, FULL, ("coin", 1, FULL, NONE))


def page(*targets):
    return tuple([(ALWAYS, target) for target in targets])


def tree_of(tests=(), pages=(), rules=RULES, files=FILES):
    return (files, rules, tuple(tests), tuple(pages), ())


def many(number, value):
    return tuple([("n%02d" % k, value) for k in range(number)])


def slow_problems(tree, threshold):
    """Return all problems of the tree."""
    for place, word, most in ((0, "files", 12), (1, "rules", 12), (2, "tests", 6), (3, "pages", 4)):
        if len(tree[place]) > most:
            return (("too many", word),)
    if find_cycle(tree) is not None:
        return (("cycle", find_cycle(tree)),)
    found = []
    for name, parts in tree[3]:
        if [target for _, target in parts if slow_build(tree, target)[0][0] == "error"]:
            found.append(("broken page", name))
    for name, test in tree[2]:
        if [slow_run_test(tree, test, seed)[0] for seed in SEEDS].count(True) < threshold:
            found.append(("failing test", name))
    return tuple(found)


def slow_read(tree):
    if slow_problems(tree, 1)[:1] and slow_problems(tree, 1)[0][0] in ("too many", "cycle"):
        return ()
    characters = [c for _, parts in tree[3] for _, target in parts for c in slow_build(tree, target)[1]]
    for _, test in tree[2]:
        for seed in SEEDS:
            characters.extend(slow_run_test(tree, test, seed)[2])
    return once(characters)


def slow_check(cache, tree, threshold):
    """Check with the steps of the document; the cache changes."""
    problems = slow_problems(tree, threshold)
    if problems and problems[0][0] in ("too many", "cycle"):
        return problems[0], ()
    targets = [target for _, parts in tree[3] for _, target in parts]
    for _, test in tree[2]:
        targets.extend(references_of(test)[0])
    results, built = cache.build(tree, tuple(targets))
    executed = [("target", name) for name in built]
    if problems and problems[0][0] == "broken page":
        return problems[0], tuple(executed)
    for name, test in tree[2]:
        for seed in SEEDS:
            coins = (seed & 1, seed >> 1 & 1, seed >> 2 & 1)
            if cache.evaluate(test, (tree[0], results, coins))[1]:
                executed.append(("test", name))
        if ("failing test", name) in problems:
            return ("failing test", name), tuple(executed)
    return None, tuple(executed)


class ChecksTest(unittest.TestCase):

    def check(self, tree, problems, threshold=8):
        first = problems[0] if problems else None
        self.assertEqual(slow_problems(tree, threshold), problems)
        self.assertEqual(all_problems(tree, threshold), problems)
        self.assertEqual(first_problem(tree, threshold), first)
        self.assertTrue(is_plain(all_problems(tree, threshold)))
        for size in (0, 50):
            cache, slow = Cache(size), Cache(size)
            for _ in range(2):
                result = check_with(cache, tree, threshold)
                self.assertEqual(result, slow_check(slow, tree, threshold))
                self.assertEqual(result[0], first)
                self.assertEqual(list(cache), list(slow))
                self.assertTrue(is_plain(result))
        self.assertEqual(read_by_check(tree), slow_read(tree))


class ProblemsTest(ChecksTest):

    def test_no_problem(self):
        self.check(EMPTY, ())
        self.check(tree_of((("t", FULL),), (("p", page("r", "u", "r")), ("q", ()))), ())
        self.assertIsNone(first_problem(tree=EMPTY, threshold=1))
        self.assertEqual(all_problems(tree=EMPTY, threshold=1), ())

    def test_too_many(self):
        rule = ("file", "a")
        self.check(tree_of(files=many(12, ())), ())
        self.check(tree_of(files=many(13, ())), (("too many", "files"),))
        self.check(tree_of(rules=many(12, rule)), ())
        self.check(tree_of(rules=many(13, rule)), (("too many", "rules"),))
        self.check(tree_of(many(6, FULL)), ())
        self.check(tree_of(many(7, FULL)), (("too many", "tests"),))
        self.check(tree_of(pages=many(4, page("r"))), ())
        self.check(tree_of(pages=many(5, page("r"))), (("too many", "pages"),))

    def test_cycles(self):
        rules = (("k", ("if", FULL, FULL, ("target", "l"))), ("l", ("target", "l")), ("r", FULL))
        self.check(tree_of(rules=rules), (("cycle", "k"),))
        self.check(tree_of(rules=rules[:1] + rules[2:]), ())

    def test_two_problems_of_form_at_once(self):
        rules = many(12, ("target", "n03")) + (("r", FULL),)
        files, tests, pages = many(13, ()), many(7, NONE), many(5, page("m"))
        self.check(tree_of(tests, pages, rules, files), (("too many", "files"),))
        self.check(tree_of(tests, pages, rules), (("too many", "rules"),))
        self.check(tree_of(tests, pages, rules[:12]), (("too many", "tests"),))
        self.check(tree_of(tests[:6], pages, rules[:12]), (("too many", "pages"),))
        self.check(tree_of(tests[:6], pages[:4], rules[:12]), (("cycle", "n00"),))

    def test_broken_pages(self):
        pages = (("p", page("r")), ("q", page("r", "s", "m")), ("w", page("m")), ("z", page("u")))
        self.check(tree_of(pages=pages), (("broken page", "q"), ("broken page", "w")))
        self.check(tree_of(pages=((("p", ((("never",), "m"),))),)), (("broken page", "p"),))

    def test_the_empty_text_breaks_no_page(self):
        self.check(tree_of(pages=(("p", page("e")),), rules=(("e", NONE),)), ())

    def test_failing_tests(self):
        tests = (("t", FULL), ("u", NONE), ("v", ("target", "s")), ("w", SOMETIMES))
        self.check(tree_of(tests), (("failing test", "u"), ("failing test", "v"), ("failing test", "w")))
        self.check(tree_of(tests), (("failing test", "u"), ("failing test", "v")), 6)
        self.check(tree_of(tests[:1]), ())

    def test_a_threshold_that_is_just_met(self):
        tests = (("w", SOMETIMES),)
        for threshold in range(1, 9):
            self.check(tree_of(tests), () if threshold <= 6 else (("failing test", "w"),), threshold)

    def test_a_broken_page_and_a_failing_test_at_once(self):
        tests, pages = (("t", NONE), ("u", ("file", "m"))), (("p", page("r")), ("q", page("s")))
        problems = (("broken page", "q"), ("failing test", "t"), ("failing test", "u"))
        self.check(tree_of(tests, pages), problems, 1)


class ReadTest(ChecksTest):

    def read(self, tree, characters):
        self.assertEqual(read_by_check(tree), characters)
        self.assertEqual(slow_read(tree), characters)
        self.assertTrue(is_plain(read_by_check(tree)))

    R = (("a", 2, 0), ("x", 1, 0), ("a", 1, 1))
    U = (("x", 1, 0), ("a", 1, 1), ("y", 1, 2), ("a", 2, 0))

    def test_nothing(self):
        self.read(EMPTY, ())
        self.read(tree_of(), ())
        self.assertEqual(read_by_check(tree=tree_of(pages=(("p", page()),))), ())

    def test_pages_and_then_tests(self):
        self.read(tree_of(pages=(("p", page("r")),)), self.R)
        self.read(tree_of(pages=(("p", page("u", "r")),)), self.U)
        self.read(tree_of(pages=(("p", page("r", "u")),)), self.R + (("y", 1, 2),))
        tests = (("k", ("target", "u")), ("l", ("dynamic file", literal("q", 7))))
        self.read(tree_of(tests), self.U + (("q", 7, 0),))
        self.read(tree_of(tests, (("p", page()), ("q", page("r")))), self.R + (("y", 1, 2), ("q", 7, 0)))

    def test_seeds_in_ascending_order(self):
        word = {seed: ("dynamic file", literal(str(seed), 8, seed)) for seed in SEEDS}
        halves = [
            ("coin", 1, ("coin", 0, word[k], word[k + 1]), ("coin", 0, word[k + 2], word[k + 3])) for k in (0, 4)
        ]
        tests = (("t", ("coin", 2, halves[0], halves[1])),)
        self.read(tree_of(tests), tuple([(str(seed), 8, seed) for seed in SEEDS]))

    def test_nothing_with_a_problem_of_form(self):
        pages, tests = (("p", page("r")),), (("t", ("target", "r")),)
        self.read(tree_of(tests, pages), self.R)
        self.read(tree_of(tests, pages, files=FILES + many(11, ())), ())
        self.read(tree_of(tests, pages, rules=RULES + (("z", ("target", "z")),)), ())

    def test_broken_pages_and_failing_tests(self):
        self.read(tree_of(pages=(("p", page("m", "s")),)), self.R)
        self.read(tree_of((("t", ("find", ("file", "b"), ("target", "s"))),)), self.R)
        tests = (("t", NONE), ("u", ("target", "u")))
        self.read(tree_of(tests, (("p", page("s")),)), self.R + (("y", 1, 2),))


class CheckWithTest(ChecksTest):

    def test_what_is_executed(self):
        tests = (("t", ("concat", ("target", "u"), SOMETIMES)), ("v", ("concat", ("target", "r"), ("target", "m"))))
        tree = tree_of(tests, (("p", page("r")),))
        cache = Cache(50)
        t = (("test", "t"),) * 3
        self.assertEqual(check_with(cache, tree, 6), (
            ("failing test", "v"), (("target", "r"), ("target", "u")) + t + (("test", "v"),),
        ))
        self.assertEqual(len(cache), 6)
        self.assertEqual(check_with(cache=cache, tree=tree, threshold=6), (("failing test", "v"), ()))
        self.assertEqual(check_with(Cache(0), tree, 6), (
            ("failing test", "v"), (("target", "r"), ("target", "u")) + (("test", "t"),) * 8 + (("test", "v"),) * 8,
        ))

    def test_the_build_order(self):
        rules = RULES[:1] + (("k", ("concat", ("target", "u"), ("target", "z"))), RULES[2], ("z", FULL))
        tests = (("t", ("if", NONE, ("target", "z"), ("target", "u"))),)
        tree = tree_of(tests, (("p", page("k", "r")),), tuple(sorted(rules)))
        self.assertEqual(check_with(Cache(50), tree, 1)[1][:4], (
            ("target", "r"), ("target", "u"), ("target", "z"), ("target", "k"),
        ))

    def test_targets_that_nothing_names_are_not_built(self):
        cache = Cache(9)
        self.assertEqual(check_with(cache, tree_of(), 8), (None, ()))
        self.assertEqual(check_with(cache, tree_of((("t", FULL),)), 8), (None, (("test", "t"),)))
        self.assertEqual(len(cache), 1)

    def test_a_problem_of_form_executes_nothing(self):
        cache = Cache(9)
        tree = tree_of((("t", FULL),), (("p", page("r")),), RULES + (("z", ("target", "z")),))
        self.assertEqual(check_with(cache, tree, 8), (("cycle", "z"), ()))
        self.assertEqual(len(cache), 0)

    def test_a_broken_page_ends_the_check(self):
        cache = Cache(9)
        tree = tree_of((("t", ("target", "u")),), (("p", page("s")), ("q", page("m"))))
        executed = (("target", "r"), ("target", "u"), ("target", "s"))
        self.assertEqual(check_with(cache, tree, 8), (("broken page", "p"), executed))
        self.assertEqual(len(cache), 3)
        tree = tree_of((("t", ("target", "u")),), (("q", page("m")),))
        self.assertEqual(check_with(cache, tree, 8), (("broken page", "q"), ()))

    def test_the_first_failing_test_ends_the_check(self):
        tests = (("a", FULL), ("b", SOMETIMES), ("c", ("file", "a")))
        cache = Cache(0)
        executed = (("test", "a"),) * 8 + (("test", "b"),) * 8
        self.assertEqual(check_with(cache, tree_of(tests), 7), (("failing test", "b"), executed))
        self.assertEqual(check_with(cache, tree_of(tests), 6), (None, executed + (("test", "c"),) * 8))

    def test_a_cache_that_knows_a_part(self):
        cache = Cache(50)
        check_with(cache, tree_of(pages=(("p", page("r")),)), 8)
        tree = tree_of(pages=(("p", page("r", "u")),))
        self.assertEqual(check_with(cache, tree, 8), (None, (("target", "u"),)))

    def test_many_trees(self):
        rng = random.Random(125)
        seen = {}
        for number in range(500):
            tree = random_whole_tree(rng, 3, number % 5 > 0)
            threshold = rng.choice((1, 4, 8))
            self.check(tree, slow_problems(tree, threshold), threshold)
            word = str((slow_problems(tree, threshold) or ((None,),))[0][0])
            seen[word] = seen.get(word, 0) + 1
        self.assertEqual(sorted(seen), ["None", "broken page", "cycle", "failing test"])
        self.assertTrue(min(seen.values()) > 20, seen)


if __name__ == "__main__":
    unittest.main()
