"""Owners and reviewers: points 120 to 122."""

import itertools
import random
import unittest

from shiptrace.owners import approval_counts, blocking_reviewers, has_direct_access, minimal_reviewers
from shiptrace.owners import missing_approval, owners_of, required_reviewers, takeover_of
from support import is_plain

OWNERS = (
    ("**", ("ann",)),
    ("file:*", ("bob", "cid")),
    ("file:d/**", ()),
    ("rule:**", ("dee", "dee")),
    ("rule:x", ("cid",)),
)
PEOPLE = ("ann", "bob", "cid", "dee")


def slow_match(pattern, string):
    """Match with stars for the few patterns of this file."""
    if not pattern:
        return not string
    if pattern[0] != "*":
        return bool(string) and string[0] == pattern[0] and slow_match(pattern[1:], string[1:])
    wide = pattern[:2] == "**"
    rest = pattern[2:] if wide else pattern[1:]
    for end in range(len(string) + 1):
        if (wide or "/" not in string[:end]) and slow_match(rest, string[end:]):
            return True
    return False


def slow_owners(owners, key):
    found = ()
    for pattern, names in owners:
        if slow_match(pattern, key):
            found = names
    return found


def slow_counts(owners, author, key, person):
    names = slow_owners(owners, key)
    return person != author and (not names or person in names)


def slow_suffice(owners, author, keys, people):
    return all([any([slow_counts(owners, author, key, person) for person in people]) for key in keys])


def slow_minimal(owners, author, keys, candidates):
    for length in range(len(candidates) + 1):
        for people in itertools.combinations(candidates, length):
            if slow_suffice(owners, author, keys, people):
                return people
    return None


def slow_required(owners, author, keys, candidates):
    return tuple([
        one for one in candidates
        if not slow_suffice(owners, author, keys, [other for other in candidates if other != one])
    ])


def slow_blocking(owners, author, keys, candidates):
    counting = [tuple([c for c in candidates if slow_counts(owners, author, key, c)]) for key in keys]
    return min(counting, key=len)


def slow_takeover(owners, group, key):
    pairs = [(a, b) for a in group for b in group]
    if [pair for pair in pairs if slow_counts(owners, pair[0], key, pair[1])]:
        return ()
    pairs = [pair for pair in pairs if slow_counts(owners, pair[0], "owners:", pair[1])]
    return (pairs[0] + ((),),) if pairs else None


class OwnersTest(unittest.TestCase):

    def test_the_last_rule_that_matches(self):
        for key, names in (
            ("file:a", ("bob", "cid")), ("file:a/b", ("ann",)), ("file:d/a", ()), ("rule:y", ("dee", "dee")),
            ("rule:x", ("cid",)), ("test:t", ("ann",)), ("owners:", ("ann",)), ("page:p", ("ann",)),
        ):
            self.assertEqual(owners_of(OWNERS, key), names)
            self.assertEqual(slow_owners(OWNERS, key), names)
        self.assertEqual(owners_of(owners=OWNERS[1:], key="owners:"), ())
        self.assertEqual(owners_of((), "file:a"), ())

    def test_whose_approval_counts(self):
        for author in PEOPLE:
            for key, names in (("file:a", ("bob", "cid")), ("file:d/a", PEOPLE), ("rule:x", ("cid",))):
                for person in PEOPLE:
                    expected = person in names and person != author
                    self.assertIs(approval_counts(OWNERS, author, key, person), expected)
        self.assertIs(approval_counts((), "ann", "file:a", "ann"), False)
        self.assertIs(approval_counts(owners=(), author="ann", key="file:a", person="bob"), True)

    def test_missing_approval(self):
        keys = ("file:a", "rule:x", "file:d/a")
        self.assertEqual(missing_approval(OWNERS, "ann", keys, ()), "file:a")
        self.assertEqual(missing_approval(OWNERS, "ann", keys, ("bob",)), "rule:x")
        self.assertEqual(missing_approval(OWNERS, "ann", ("rule:x",) + keys, ("bob",)), "rule:x")
        self.assertIsNone(missing_approval(OWNERS, "ann", keys, ("bob", "cid")))
        self.assertIsNone(missing_approval(owners=OWNERS, author="ann", keys=keys, approvals=("cid",)))
        self.assertIsNone(missing_approval(OWNERS, "ann", (), ()))

    def test_the_authors_own_approval(self):
        self.assertEqual(missing_approval(OWNERS, "cid", ("file:a", "rule:x"), ("cid", "bob")), "rule:x")
        self.assertEqual(missing_approval((), "ann", ("file:a",), ("ann", "ann")), "file:a")

    def test_approvals_of_people_who_own_nothing(self):
        self.assertEqual(missing_approval(OWNERS, "ann", ("file:d/a", "file:a"), ("zoe", "zoe")), "file:a")
        self.assertIsNone(missing_approval(OWNERS, "ann", ("file:d/a",), ("zoe",)))


class ReviewersTest(unittest.TestCase):

    def check(self, author, keys, candidates, minimal, required, blocking):
        self.assertEqual(minimal_reviewers(OWNERS, author, keys, candidates), minimal)
        self.assertEqual(slow_minimal(OWNERS, author, keys, candidates), minimal)
        self.assertEqual(required_reviewers(OWNERS, author, keys, candidates), required)
        self.assertEqual(slow_required(OWNERS, author, keys, candidates), required)
        if keys:
            self.assertEqual(blocking_reviewers(OWNERS, author, keys, candidates), blocking)
            self.assertEqual(slow_blocking(OWNERS, author, keys, candidates), blocking)

    def test_ordinary_ones(self):
        self.check("ann", ("file:a", "rule:x"), PEOPLE, ("cid",), ("cid",), ("cid",))
        self.check("cid", ("file:a", "rule:y"), PEOPLE, ("bob", "dee"), ("bob", "dee"), ("bob",))
        self.check("zoe", ("file:a",), PEOPLE, ("bob",), (), ("bob", "cid"))
        self.check("zoe", ("file:a",), ("dee", "cid", "ann", "bob"), ("cid",), (), ("cid", "bob"))

    def test_no_keys(self):
        self.check("ann", (), PEOPLE, (), (), None)
        self.check("ann", (), (), (), (), None)

    def test_keys_that_repeat(self):
        self.check("ann", ("rule:y", "rule:y", "file:d/a"), PEOPLE, ("dee",), ("dee",), ("dee",))

    def test_the_author_among_the_candidates(self):
        self.check("bob", ("file:a", "file:d/a"), ("bob", "cid"), ("cid",), ("cid",), ("cid",))
        self.check("cid", ("file:d/a",), ("cid", "bob", "ann"), ("bob",), (), ("bob", "ann"))

    def test_not_even_all_suffice(self):
        self.check("cid", ("file:d/a", "rule:x"), PEOPLE, None, PEOPLE, ())
        self.check("ann", ("file:a",), (), None, (), ())
        self.check("ann", ("file:d/a",), ("ann",), None, ("ann",), ())

    def test_the_first_of_several_shortest_selections(self):
        owners = (("file:a", ("p", "r", "s")), ("file:b", ("q", "s")), ("file:c", ("r", "q")))
        keys = ("file:a", "file:b", "file:c")
        self.assertEqual(minimal_reviewers(owners, "z", keys, ("p", "q", "r", "s")), ("p", "q"))
        self.assertEqual(minimal_reviewers(owners, "z", keys, ("s", "r", "q", "p")), ("s", "r"))
        self.assertEqual(minimal_reviewers(owners, "z", keys, ("p", "s", "r", "q")), ("p", "q"))
        self.assertEqual(minimal_reviewers(owners=owners, author="q", keys=keys, candidates=("p", "r", "s")), ("r", "s"))
        self.assertEqual(required_reviewers(owners=owners, author="q", keys=keys, candidates=("p", "r", "s")), ("r", "s"))

    def test_the_first_of_several_blocked_keys(self):
        keys = ("file:d/a", "rule:x", "rule:y", "file:b")
        self.assertEqual(blocking_reviewers(OWNERS, "ann", keys, PEOPLE), ("cid",))
        keys = ("file:d/a", "rule:y", "rule:x")
        self.assertEqual(blocking_reviewers(owners=OWNERS, author="ann", keys=keys, candidates=PEOPLE), ("dee",))
        self.assertEqual(blocking_reviewers(OWNERS, "ann", keys, ("bob",)), ())


class AccessTest(unittest.TestCase):

    def check(self, group, key, takeover, owners=OWNERS):
        self.assertEqual(takeover_of(owners, group, key), takeover)
        self.assertEqual(slow_takeover(owners, group, key), takeover)
        self.assertIs(has_direct_access(owners, group, key), takeover == ())

    def test_small_groups(self):
        for key in ("file:a", "file:d/a", "owners:"):
            self.check((), key, None)
            self.check(("ann",), key, None)

    def test_direct_access(self):
        self.check(("bob", "zoe"), "file:a", ())
        self.check(("bob", "cid"), "rule:x", ())
        self.check(("zoe", "yan"), "file:d/a", ())
        self.check(("zoe", "ann"), "owners:", ())
        self.check(("zoe", "bob"), "owners:", None)
        self.assertIs(has_direct_access(owners=(), group=("p", "q"), key="owners:"), True)

    def test_access_to_the_owner_rules_alone(self):
        self.check(("ann", "bob"), "rule:x", (("bob", "ann", ()),))
        self.check(("bob", "ann"), "rule:x", (("bob", "ann", ()),))
        self.check(("bob", "dee", "ann"), "rule:x", (("bob", "ann", ()),))
        self.check(("dee", "ann", "bob"), "rule:x", (("dee", "ann", ()),))

    def test_the_first_author_and_the_first_approver(self):
        owners = (("owners:", ("p", "q", "r")), ("file:**", ("zoe",)))
        self.check(("p", "q"), "file:a", (("p", "q", ()),), owners)
        self.check(("q", "x", "p"), "file:a", (("q", "p", ()),), owners)
        self.check(("x", "r", "p"), "file:a", (("x", "r", ()),), owners)
        self.check(("x", "y"), "file:a", None, owners)
        self.assertEqual(takeover_of(owners=owners, group=("x", "p"), key="file:a"), (("x", "p", ()),))

    def test_the_key_of_the_owner_rules(self):
        self.check(("p", "q"), "owners:", None, (("owners:", ("zoe",)),))
        self.check(("p", "q"), "owners:", (), (("owners:", ("zoe",)), ("*:", ())))


class ManyOwnersTest(unittest.TestCase):

    def test_all_functions(self):
        rng = random.Random(120)
        patterns = ("**", "*", "file:*", "file:a*", "*:a/*", "*a", "rule:**", "owners:", "*:")
        for _ in range(600):
            owners = tuple([
                (rng.choice(patterns), tuple(rng.choices(PEOPLE, k=rng.randrange(3)))) for _ in range(rng.randrange(5))
            ])
            keys = tuple(rng.choices(("file:a", "file:a/b", "rule:a", "test:x/y", "owners:"), k=rng.randrange(1, 4)))
            people = tuple(rng.sample(PEOPLE, rng.randrange(5)))
            author = rng.choice(PEOPLE)
            for function, slow in (
                (minimal_reviewers, slow_minimal), (required_reviewers, slow_required), (blocking_reviewers, slow_blocking),
            ):
                result = function(owners, author, keys, people)
                self.assertEqual(result, slow(owners, author, keys, people))
                self.assertTrue(is_plain(result))
            missing = [key for key in keys if not slow_suffice(owners, author, (key,), people)]
            self.assertEqual(missing_approval(owners, author, keys, people), missing[0] if missing else None)
            for key in keys:
                self.assertEqual(owners_of(owners, key), slow_owners(owners, key))
                self.assertEqual(takeover_of(owners, people, key), slow_takeover(owners, people, key))


if __name__ == "__main__":
    unittest.main()
