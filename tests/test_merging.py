"""Merging: points 140 to 143."""

import itertools
import random
import unittest

from shiptrace.cache import Cache
from shiptrace.checks import check_with, first_problem
from shiptrace.edits import apply_edits, first_inapplicable, key_of, stamp_edits
from shiptrace.errors import ConflictsWith
from shiptrace.merging import most_mergeable, process, process_in_batches
from shiptrace.owners import missing_approval
from shiptrace.trunk import rebase_to_head, tree_at
from support import is_plain, stamped

ALWAYS = ("always",)
PAGE = ("set page", "p", ((ALWAYS, "r"),))


def change(number, base, *edits, author="ann", approvals=("bob",)):
    return (number, author, base, stamp_edits(edits, number), approvals)


def patch(*hunks):
    return ("patch", "a", hunks)


# The head has the file a, "abcdef", and the page p with the target r.
TRUNK = (
    (20, stamp_edits((("write", "a", "bcdef"),), 20)),
    (21, stamp_edits((patch((0, 0, "a")), ("set rule", "r", ("file", "a"))), 21)),
    (22, stamp_edits((PAGE, ("set owners", (("file:z", ("cid",)),))), 22)),
)


def slow_outcome(trunk, waiting, threshold):
    """Return the outcome of one change and the trunk behind it."""
    number, author, base, edits, approvals = waiting
    head = tree_at(trunk, len(trunk))
    key = missing_approval(head[4], author, tuple([key_of(edit) for edit in edits]), approvals)
    if key is not None:
        return ("rejected", ("missing approval", key)), trunk
    try:
        rebased = rebase_to_head(trunk, base, edits)
    except ConflictsWith as conflict:
        return ("rejected", ("conflict", conflict.commit)), trunk
    problem = first_problem(apply_edits(head, rebased), threshold)
    if problem is not None:
        return ("rejected", problem), trunk
    return ("landed", len(trunk)), trunk + ((number, rebased),)


def slow_process(trunk, waiting, threshold):
    outcomes = []
    for one in waiting:
        outcome, trunk = slow_outcome(trunk, one, threshold)
        outcomes.append(outcome)
    return trunk, tuple(outcomes)


def slow_executed(trunk, waiting, threshold, batch_size, cache):
    """Return what is executed in batches; the cache changes."""
    executed = []
    left = list(waiting)
    while left:
        batch, grown = left[:batch_size], trunk
        trees = []
        for one in batch:
            # Under a threshold of 0 no test fails, but trees may still have other problems.
            outcome, _ = slow_outcome(grown, one, 0)
            if outcome[0] == "rejected" and outcome[1][0] in ("missing approval", "conflict"):
                trees.append(None)
                continue
            grown = grown + ((one[0], rebase_to_head(grown, one[2], one[3])),)
            trees.append(tree_at(grown, len(grown)))
        problems = []
        for tree in trees:
            if tree is None:
                problems.append(None)
                continue
            problem, run = check_with(cache, tree, threshold)
            problems.append(problem)
            executed.extend(run)
        done = problems.index([p for p in problems if p][0]) + 1 if any(problems) else len(batch)
        trunk, _ = slow_process(trunk, left[:done], threshold)
        left = left[done:]
    return tuple(executed)


class MergingTest(unittest.TestCase):

    def check(self, waiting, outcomes, trunk=TRUNK, threshold=8):
        """Check the outcomes, also in batches of each size, and return the trunk."""
        result = process(trunk, waiting, threshold)
        self.assertEqual(result[1], outcomes)
        self.assertEqual(result, slow_process(trunk, waiting, threshold))
        self.assertTrue(is_plain(result))
        for batch_size in (1, 2, 3, 9):
            for size in (0, 30):
                cache, slow = Cache(size), Cache(size)
                in_batches = process_in_batches(trunk, waiting, threshold, batch_size, cache)
                executed = slow_executed(trunk, waiting, threshold, batch_size, slow)
                self.assertEqual(in_batches, result + (executed,))
                self.assertEqual(list(cache), list(slow))
                self.assertTrue(is_plain(in_batches))
        return result[0]


class ProcessTest(MergingTest):

    def test_no_changes(self):
        self.assertEqual(self.check((), ()), TRUNK)
        self.assertEqual(self.check((), (), ()), ())

    def test_landing(self):
        one = change(0, 3, ("write", "b", "x"))
        two = change(7, 3, ("write", "c", "y"), author="zoe")
        trunk = self.check((one, two), (("landed", 3), ("landed", 4)))
        self.assertEqual(trunk, TRUNK + ((0, one[3]), (7, two[3])))
        result = process(trunk=TRUNK, waiting=(one, two), threshold=8)
        self.assertEqual(result, (trunk, (("landed", 3), ("landed", 4))))

    def test_on_the_empty_trunk(self):
        one = change(0, 0, ("write", "a", "x"))
        self.assertEqual(self.check((one,), (("landed", 0),), ()), ((0, one[3]),))

    def test_missing_approvals(self):
        self.check((change(0, 3, ("write", "b", "x"), approvals=()),), (("rejected", ("missing approval", "file:b")),))
        self.check((change(0, 3, ("write", "b", "x"), approvals=("ann",)),), (
            ("rejected", ("missing approval", "file:b")),
        ))
        edits = (("write", "b", "x"), ("write", "z", "x"), ("write", "y", "x"))
        self.check((change(0, 3, *edits),), (("rejected", ("missing approval", "file:z")),))
        self.check((change(0, 3, *edits, approvals=("bob", "cid")),), (("landed", 3),))

    def test_the_owner_rules_of_the_head_count(self):
        # The owner rules came with commit 2; a change may have older ones as its base.
        edit = ("write", "z", "x")
        self.check((change(0, 1, edit),), (("rejected", ("missing approval", "file:z")),))
        none = change(1, 3, ("set owners", ()))
        self.check((none, change(2, 1, edit)), (("landed", 3), ("landed", 4)))
        stricter = change(1, 3, ("set owners", (("**", ("dee",)),)))
        self.check((stricter, change(2, 1, ("write", "b", "x"))), (
            ("landed", 3), ("rejected", ("missing approval", "file:b")),
        ))

    def test_conflicts(self):
        self.check((change(0, 1, ("write", "a", "x")),), (("rejected", ("conflict", 1)),))
        self.check((change(0, 0, ("write", "a", "x")),), (("rejected", ("conflict", 0)),))
        self.check((change(0, 2, ("set page", "p", ())),), (("rejected", ("conflict", 2)),))

    def test_a_change_that_is_rebased_over_commits(self):
        one = change(0, 1, patch((2, 1, "XY")), ("write", "b", "x"))
        trunk = self.check((one,), (("landed", 3),))
        self.assertEqual(trunk[3], (0, (("patch", "a", ((3, 1, stamped("XY", 0)),)), ("write", "b", stamped("x", 0, 2)))))
        two = change(1, 2, patch((5, 1, "Z")))
        trunk = self.check((one, two), (("landed", 3), ("landed", 4)))
        self.assertEqual(trunk[4], (1, (("patch", "a", ((6, 1, stamped("Z", 1)),)),)))

    def test_a_conflict_with_one_that_landed_just_before(self):
        one, two = change(0, 3, patch((1, 1, "B"))), change(1, 3, patch((2, 1, "C")))
        self.check((one, two), (("landed", 3), ("rejected", ("conflict", 3))))
        three = change(2, 3, patch((4, 1, "E")))
        self.check((one, two, three), (("landed", 3), ("rejected", ("conflict", 3)), ("landed", 4)))

    def test_problems(self):
        self.check((change(0, 3, ("set rule", "r", ("file", "m"))),), (("rejected", ("broken page", "p")),))
        self.check((change(0, 3, ("set rule", "c", ("target", "c"))),), (("rejected", ("cycle", "c")),))
        failing = change(0, 3, ("set test", "t", ("coin", 0, ("literal", "x"), ("literal", ""))))
        self.check((failing,), (("rejected", ("failing test", "t")),))
        self.check((failing,), (("landed", 3),), TRUNK, 4)
        self.check((failing,), (("rejected", ("failing test", "t")),), TRUNK, 5)
        pages = tuple([("set page", name, ()) for name in "vwxyz"[:4]])
        self.check((change(0, 3, *pages),), (("rejected", ("too many", "pages")),))

    def test_two_reasons_at_once(self):
        self.check((change(0, 1, ("write", "a", "x"), approvals=()),), (("rejected", ("missing approval", "file:a")),))
        self.check((change(0, 1, ("write", "a", "x"), ("set rule", "c", ("target", "c"))),), (
            ("rejected", ("conflict", 1)),
        ))
        self.check((change(0, 3, ("set rule", "c", ("target", "c")), approvals=()),), (
            ("rejected", ("missing approval", "rule:c")),
        ))

    def test_a_change_without_edits(self):
        trunk = self.check((change(0, 1, approvals=()),), (("landed", 3),))
        self.assertEqual(trunk[3], (0, ()))
        broken = TRUNK + ((23, (("delete rule", "r"),)),)
        self.check((change(0, 4),), (("rejected", ("broken page", "p")),), broken)

    def test_a_rejected_change_leaves_nothing(self):
        one = change(0, 3, ("set rule", "r", ("file", "m")), ("write", "b", "x"))
        two = change(1, 3, ("set rule", "r", ("optional file", "b")))
        trunk = self.check((one, two), (("rejected", ("broken page", "p")), ("landed", 3)))
        self.assertEqual(trunk, TRUNK + ((1, two[3]),))


class BatchTest(MergingTest):

    def setUp(self):
        self.good = [change(k, 3, ("set rule", "g" + str(k), ("literal", "x" * (k + 1))),
                            ("set page", "q" + str(k), ((ALWAYS, "g" + str(k)),))) for k in range(3)]
        self.bad = change(3, 3, ("set page", "p", ((ALWAYS, "m"),)))
        self.refused = change(4, 3, ("write", "b", "x"), approvals=())

    def executed(self, waiting, batch_size, size=30, threshold=8):
        cache = Cache(size)
        trunk, outcomes, executed = process_in_batches(TRUNK, tuple(waiting), threshold, batch_size, cache)
        self.assertEqual((trunk, outcomes), process(TRUNK, tuple(waiting), threshold))
        return outcomes, executed

    def test_the_keywords(self):
        result = process_in_batches(trunk=TRUNK, waiting=(), threshold=8, batch_size=1, cache=Cache(0))
        self.assertEqual(result, (TRUNK, (), ()))

    def test_batches_that_pass(self):
        g0, g1, g2, r = [("target", name) for name in ("g0", "g1", "g2", "r")]
        landed = (("landed", 3), ("landed", 4), ("landed", 5))
        for batch_size in (1, 2, 3, 9):
            self.assertEqual(self.executed(self.good, batch_size), (landed, (g0, r, g1, g2)))
            self.assertEqual(self.executed(self.good, batch_size, 0), (landed, (g0, r, g0, g1, r, g0, g1, g2, r)))

    def test_refused_changes_inside_a_batch(self):
        waiting = [self.good[0], self.refused, self.good[1]]
        for batch_size in (1, 2, 3):
            outcomes, executed = self.executed(waiting, batch_size, 0)
            self.assertEqual(outcomes, (
                ("landed", 3), ("rejected", ("missing approval", "file:b")), ("landed", 4),
            ))
            self.assertEqual([name for _, name in executed], ["g0", "r", "g0", "g1", "r"])
        self.assertEqual(self.executed([self.refused], 3), ((("rejected", ("missing approval", "file:b")),), ()))

    def test_the_first_tree_that_does_not_pass_ends_the_batch(self):
        waiting = [self.good[0], self.bad, self.good[1], self.good[2]]
        outcomes = (("landed", 3), ("rejected", ("broken page", "p")), ("landed", 4), ("landed", 5))
        # All trees of the first batch are checked; from the bad change on, the page p does not name r.
        expected = [
            (1, "g0 r g0 g0 g1 r g0 g1 g2 r"),
            (2, "g0 r g0 g0 g1 r g0 g1 g2 r"),
            (3, "g0 r g0 g0 g1 g0 g1 r g0 g1 g2 r"),
            (4, "g0 r g0 g0 g1 g0 g1 g2 g0 g1 r g0 g1 g2 r"),
        ]
        for batch_size, names in expected:
            result, executed = self.executed(waiting, batch_size, 0)
            self.assertEqual(result, outcomes)
            self.assertEqual(" ".join([name for _, name in executed]), names)
            self.assertEqual([name for _, name in self.executed(waiting, batch_size)[1]], ["g0", "r", "g1", "g2"])

    def test_a_conflict_with_a_change_that_does_not_land(self):
        # In the first batch the second change is refused, but that is not its outcome.
        first = change(0, 3, ("set page", "p", ((ALWAYS, "m"),)))
        second = change(1, 3, ("set page", "p", ()))
        for batch_size in (1, 2):
            outcomes, executed = self.executed([first, second], batch_size, 0)
            self.assertEqual(outcomes, (("rejected", ("broken page", "p")), ("landed", 3)))
        self.assertEqual(executed, ())

    def test_a_refused_change_before_the_end_of_a_batch(self):
        waiting = [self.refused, self.bad, (9,) + self.refused[1:], self.good[0]]
        outcomes, _ = self.executed(waiting, 3)
        reason = ("rejected", ("missing approval", "file:b"))
        self.assertEqual(outcomes, (reason, ("rejected", ("broken page", "p")), reason, ("landed", 3)))

    def test_the_cache_is_used_over_all_checks(self):
        cache = Cache(30)
        test = change(0, 3, ("set test", "t", ("coin", 1, ("file", "a"), ("target", "r"))))
        _, outcomes, executed = process_in_batches(TRUNK, (test,), 8, 1, cache)
        self.assertEqual(outcomes, (("landed", 3),))
        self.assertEqual(executed, (("target", "r"), ("test", "t"), ("test", "t")))
        self.assertEqual(len(cache), 3)
        _, _, executed = process_in_batches(TRUNK, (test, self.good[0]), 8, 2, cache)
        self.assertEqual(executed, (("target", "g0"),))


POOL = (
    ("write", "a", "xyz"), ("write", "b", "q"), ("write", "b", ""), ("delete", "a"), ("delete", "b"),
    patch((0, 1, "A")), patch((1, 0, "I")), patch((2, 2, "")), patch((0, 0, "S"), (3, 1, "E")),
    ("set rule", "r", ("file", "a")), ("set rule", "r", ("optional file", "b")), ("set rule", "s", ("target", "r")),
    ("set rule", "s", ("find", ("file", "a"), ("literal", "c"))), ("set rule", "r", ("target", "s")),
    ("delete rule", "r"), ("delete rule", "s"),
    ("set page", "p", ((ALWAYS, "r"),)), ("set page", "q", ((ALWAYS, "s"), (ALWAYS, "r"))), ("delete page", "q"),
    ("set test", "t", ("target", "r")), ("set test", "t", ("coin", 0, ("literal", "x"), ("target", "s"))),
    ("delete test", "t"), ("set owners", (("file:*", ("bob",)),)), ("set owners", ()), ("set owners", (("**", ("cid",)),)),
)


class ManyChangesTest(MergingTest):

    def random_change(self, rng, trunk, number):
        base = rng.randrange(len(trunk) + 1)
        edits = tuple(rng.sample(POOL, rng.randrange(1, 4)))
        keys = [key_of(edit) for edit in edits]
        if len(set(keys)) < len(keys) or first_inapplicable(tree_at(trunk, base), edits) is not None:
            return self.random_change(rng, trunk, number)
        approvals = rng.choice((("bob", "cid"), ("bob", "cid"), ("bob",), ("zoe", "cid"), ()))
        return change(number, base, *edits, author=rng.choice(("ann", "bob", "zoe")), approvals=approvals)

    def test_many_changes(self):
        rng = random.Random(141)
        seen = {}
        for _ in range(60):
            trunk = TRUNK[:rng.randrange(4)]
            waiting = tuple([self.random_change(rng, trunk, number) for number in range(rng.randrange(5))])
            threshold = rng.choice((1, 5, 8))
            _, outcomes = slow_process(trunk, waiting, threshold)
            self.check(waiting, outcomes, trunk, threshold)
            self.check_most_mergeable(trunk, waiting, threshold)
            for word, reason in outcomes:
                word = word if word == "landed" else reason[0]
                seen[word] = seen.get(word, 0) + 1
        self.assertEqual(sorted(seen), [
            "broken page", "conflict", "cycle", "failing test", "landed", "missing approval",
        ])

    def check_most_mergeable(self, trunk, waiting, threshold):
        best = ()
        for length in range(len(waiting) + 1):
            found = [
                tuple([one[0] for one in some]) for some in itertools.combinations(waiting, length)
                if all([outcome[0] == "landed" for outcome in slow_process(trunk, some, threshold)[1]])
            ]
            best = found[0] if found else best
        self.assertEqual(most_mergeable(trunk, waiting, threshold), best)


class MostMergeableTest(unittest.TestCase):

    def test_no_changes(self):
        self.assertEqual(most_mergeable(TRUNK, (), 8), ())
        self.assertEqual(most_mergeable((), (), 8), ())

    def test_none_can_land(self):
        waiting = (change(0, 1, ("write", "a", "x")), change(1, 3, ("write", "b", "x"), approvals=()))
        self.assertEqual(most_mergeable(TRUNK, waiting, 8), ())

    def test_the_first_of_the_longest(self):
        a = change(9, 3, ("write", "a", "x"), ("write", "b", "y"))
        b = change(5, 3, ("write", "a", "z"))
        c = change(7, 3, ("write", "b", "w"))
        d = change(6, 3, ("write", "a", "z"), ("write", "c", "w"))
        self.assertEqual(most_mergeable(TRUNK, (a, b, c), 8), (5, 7))
        self.assertEqual(most_mergeable(TRUNK, (c, b, a), 8), (7, 5))
        self.assertEqual(most_mergeable(TRUNK, (a, b), 8), (9,))
        self.assertEqual(most_mergeable(TRUNK, (b, d, c), 8), (5, 7))
        self.assertEqual(most_mergeable(TRUNK, (d, c, b), 8), (6, 7))
        self.assertEqual(most_mergeable(trunk=TRUNK, waiting=(a, b, c, d), threshold=8), (5, 7))

    def test_one_that_needs_another_one(self):
        # The page is broken unless the rule comes first.
        rule = change(0, 3, ("set rule", "s", ("file", "a")))
        page = change(1, 3, ("set page", "s", ((ALWAYS, "s"),)))
        self.assertEqual(most_mergeable(TRUNK, (rule, page), 8), (0, 1))
        self.assertEqual(most_mergeable(TRUNK, (page, rule), 8), (0,))

    def test_the_threshold(self):
        test = change(0, 3, ("set test", "t", ("coin", 0, ("literal", "x"), ("literal", ""))))
        self.assertEqual(most_mergeable(TRUNK, (test,), 4), (0,))
        self.assertEqual(most_mergeable(TRUNK, (test,), 5), ())

    def test_a_change_is_taken_once(self):
        nothing = change(0, 3)
        refused = change(1, 3, ("write", "z", "x"))
        self.assertEqual(most_mergeable(TRUNK, (nothing, refused), 8), (0,))
        self.assertEqual(most_mergeable(TRUNK, (refused, nothing), 8), (0,))

    def test_all_four(self):
        waiting = tuple([change(k, 3, ("write", "n" + str(k), "x")) for k in (3, 1, 2, 0)])
        self.assertEqual(most_mergeable(TRUNK, waiting, 8), (3, 1, 2, 0))


if __name__ == "__main__":
    unittest.main()
