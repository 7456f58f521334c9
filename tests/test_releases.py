"""Releases: points 180 and 181."""

import random
import unittest

from reference import once, random_whole_tree, slow_build
from reference_flags import random_condition
from shiptrace.cache import Cache
from shiptrace.errors import DependencyCycle, PageBroken
from shiptrace.graph import find_cycle
from shiptrace.releases import bill_of, make_release, make_release_with, read_for_release, release_text
from shiptrace.trees import EMPTY
from support import is_plain, literal, stamped

ALWAYS, NEVER, A = ("always",), ("never",), ("flag", "a")
FILES = (("f", stamped("xay", 3)), ("g", stamped("a", 1)))
RULES = (
    ("empty", ("literal", ())),
    ("lost", ("file", "m")),
    ("r", ("after", ("file", "f"), ("file", "g"))),
    ("s", ("concat", ("target", "r"), literal("!", 5))),
    ("t", ("find", ("file", "g"), ("file", "f"))),
)
R = (("y", 3, 2),)
S = R + (("!", 5, 0),)
CYCLE = ("z", ("target", "z"))


def tree_of(*pages, rules=RULES):
    return (FILES, rules, (), pages, ())


def page(name, *targets):
    return (name, tuple([(ALWAYS, target) for target in targets]))


def slow_release(tree, revision):
    """Return the release, or the name of the first broken page."""
    pages = []
    for name, parts in tree[3]:
        made = []
        for condition, target in parts:
            (kind, value), _ = slow_build(tree, target)
            if kind == "error":
                return name
            made.append((condition, value))
        pages.append((name, tuple(made)))
    return (revision, tuple(pages))


def slow_read(tree):
    return once([c for _, parts in tree[3] for _, target in parts for c in slow_build(tree, target)[1]])


class ReleaseTest(unittest.TestCase):

    def check(self, tree, release):
        self.assertEqual(make_release(tree, release[0]), release)
        self.assertEqual(slow_release(tree, release[0]), release)
        self.assertTrue(is_plain(release))
        for size in (0, 9):
            made = make_release_with(Cache(size), tree, release[0])
            self.assertEqual(made[0], release)
            self.assertTrue(is_plain(made))

    def check_broken(self, tree, name):
        self.assertEqual(slow_release(tree, 0), name)
        with self.assertRaises(PageBroken) as caught:
            make_release(tree, 0)
        self.assertEqual(caught.exception.name, name)
        with self.assertRaises(PageBroken) as caught:
            make_release_with(Cache(3), tree, 0)
        self.assertEqual(caught.exception.name, name)

    def test_no_pages_and_no_parts(self):
        self.check(EMPTY, (0, ()))
        self.check(EMPTY, (7, ()))
        self.check(tree_of(("p", ())), (2, (("p", ()),)))
        self.check(tree_of(("p", ()), page("q", "r")), (2, (("p", ()), ("q", ((ALWAYS, R),)))))

    def test_conditions_and_the_order_of_parts(self):
        parts = ((A, "s"), (NEVER, "r"), (("not", A), "s"))
        self.check(tree_of(("p", parts)), (4, (("p", ((A, S), (NEVER, R), (("not", A), S))),)))

    def test_the_same_target_in_several_parts(self):
        self.check(tree_of(page("p", "r", "r"), page("q", "r")),
                   (1, (("p", ((ALWAYS, R), (ALWAYS, R))), ("q", ((ALWAYS, R),)))))

    def test_the_empty_text_is_a_text(self):
        self.check(tree_of(page("p", "empty")), (1, (("p", ((ALWAYS, ()),)),)))

    def test_targets_that_no_page_has(self):
        self.check(tree_of(page("p", "r"), rules=RULES), (1, (("p", ((ALWAYS, R),)),)))

    def test_broken_pages(self):
        self.check_broken(tree_of(page("p", "lost")), "p")
        self.check_broken(tree_of(page("p", "none")), "p")
        self.check_broken(tree_of(page("o", "r"), page("p", "r", "s", "lost"), page("q", "none")), "p")
        self.check_broken(tree_of(("p", ((NEVER, "lost"),)), page("q", "r")), "p")

    def test_a_broken_page_by_a_cycle(self):
        tree = tree_of(page("p", "r"), page("q", "z"), rules=RULES + (CYCLE,))
        with self.assertRaises(PageBroken) as caught:
            make_release(tree, 1)
        self.assertEqual(caught.exception.name, "q")

    def test_a_cycle_that_no_page_needs(self):
        tree = tree_of(page("p", "r"), rules=RULES + (CYCLE,))
        self.assertEqual(make_release(tree, 1), (1, (("p", ((ALWAYS, R),)),)))

    def test_keywords(self):
        self.assertEqual(make_release(tree=EMPTY, revision=3), (3, ()))
        self.assertEqual(make_release_with(cache=Cache(1), tree=EMPTY, revision=3), ((3, ()), ()))


class TextTest(unittest.TestCase):

    RELEASE = (4, (("p", ((A, stamped("ab", 5)), (NEVER, stamped("c", 2)))), ("q", ()), ("r", ((A, stamped("d", 5)),))))

    def test_the_text_of_a_release(self):
        self.assertEqual(release_text(self.RELEASE), stamped("ab", 5) + stamped("c", 2) + stamped("d", 5))
        self.assertEqual(release_text((3, ())), ())
        self.assertEqual(release_text(release=(3, (("p", ((A, ()),)),))), ())

    def test_bills(self):
        self.assertEqual(bill_of(self.RELEASE), ((2, 1), (5, 3)))
        self.assertEqual(bill_of((3, ())), ())
        self.assertEqual(bill_of(release=(3, (("p", ((A, ()),)),))), ())
        text = stamped("a", 11) + stamped("b", 2) + stamped("cd", 0) + stamped("e", 2)
        self.assertEqual(bill_of((0, (("p", ((A, text), (A, text))),))), ((0, 4), (2, 4), (11, 2)))
        self.assertTrue(is_plain(bill_of(self.RELEASE)))


class CacheTest(unittest.TestCase):

    def test_a_dependency_cycle(self):
        for pages in ((page("p", "z"),), (page("p", "r"),), (page("p", "lost"),), ()):
            tree = tree_of(*pages, rules=(("b", ("target", "z")),) + RULES + (CYCLE,))
            cache = Cache(9)
            with self.assertRaises(DependencyCycle) as caught:
                make_release_with(cache, tree, 1)
            self.assertEqual(caught.exception.target, "b")
            self.assertEqual(len(cache), 0)

    def test_what_is_executed_a_first_and_a_second_time(self):
        tree = tree_of(page("p", "s", "r"), page("q", "t", "s"))
        release = (6, (("p", ((ALWAYS, S), (ALWAYS, R))), ("q", ((ALWAYS, ()), (ALWAYS, S)))))
        cache = Cache(9)
        self.assertEqual(make_release_with(cache, tree, 6), (release, ("r", "t", "s")))
        self.assertEqual(make_release_with(cache, tree, 6), (release, ()))
        self.assertEqual(len(cache), 3)
        cache = Cache(0)
        self.assertEqual(make_release_with(cache, tree, 6), (release, ("r", "t", "s")))
        self.assertEqual(make_release_with(cache, tree, 6), (release, ("r", "t", "s")))
        self.assertEqual(len(cache), 0)

    def test_a_broken_page_after_the_cache_has_changed(self):
        tree = tree_of(page("p", "lost"), page("q", "s"))
        cache = Cache(9)
        with self.assertRaises(PageBroken) as caught:
            make_release_with(cache, tree, 6)
        self.assertEqual(caught.exception.name, "p")
        expected = Cache(9)
        expected.build(tree, ("s", "lost"))
        self.assertEqual(list(cache), list(expected))
        self.assertEqual(len(cache), 3)


class ReadTest(unittest.TestCase):

    READ_R = (("a", 1, 0), ("x", 3, 0), ("a", 3, 1))

    def check(self, tree, characters):
        self.assertEqual(read_for_release(tree), characters)
        self.assertEqual(slow_read(tree), characters)
        self.assertTrue(is_plain(read_for_release(tree)))

    def test_nothing(self):
        self.check(EMPTY, ())
        self.check(tree_of(("p", ()), page("q", "empty")), ())

    def test_page_by_page_and_part_by_part(self):
        self.check(tree_of(page("p", "r")), self.READ_R)
        self.check(tree_of(page("p", "t")), stamped("xay", 3) + stamped("a", 1))
        self.check(tree_of(page("p", "r", "t")), self.READ_R + (("y", 3, 2),))
        self.check(tree_of(page("p", "r"), page("q", "t")), self.READ_R + (("y", 3, 2),))
        self.check(tree_of(page("p", "t"), page("q", "r")), stamped("xay", 3) + stamped("a", 1))

    def test_equal_characters_once(self):
        self.check(tree_of(page("p", "r", "r"), page("q", "s", "r")), self.READ_R)

    def test_a_broken_page(self):
        rules = (("k", ("concat", ("target", "t"), ("file", "m"))),) + RULES
        self.check(tree_of(page("p", "lost"), page("q", "k"), rules=rules), stamped("xay", 3) + stamped("a", 1))
        self.assertEqual(read_for_release(tree=tree_of(page("p", "none"))), ())

    def test_parts_that_are_never_shown(self):
        self.check(tree_of(("p", ((NEVER, "r"),))), self.READ_R)


class RandomReleasesTest(unittest.TestCase):

    def test_against_slow_versions(self):
        rng = random.Random(180)
        made = 0
        cache = Cache(12)
        for _ in range(400):
            files, rules, tests, pages, owners = random_whole_tree(rng, acyclic=rng.randrange(8) > 0)
            pages = tuple([
                (name, tuple([(random_condition(rng, 2), target) for _, target in parts])) for name, parts in pages
            ])
            tree = (files, rules, tests, pages, owners)
            self.assertEqual(read_for_release(tree), slow_read(tree))
            expected = slow_release(tree, 3)
            other = cache.copy()
            try:
                release = make_release(tree, 3)
                made += 1
                text = tuple([c for _, parts in release[1] for _, text in parts for c in text])
                self.assertEqual(release_text(release), text)
                changes = [c[1] for c in text]
                self.assertEqual(bill_of(release), tuple([(n, changes.count(n)) for n in sorted(set(changes))]))
            except PageBroken as broken:
                release = broken.name
            self.assertEqual(release, expected)
            if find_cycle(tree) is not None:
                continue
            targets = [target for _, parts in pages for _, target in parts]
            _, executed = other.build(tree, tuple(targets))
            try:
                self.assertEqual(make_release_with(cache, tree, 3), (expected, executed))
            except PageBroken as broken:
                self.assertEqual(broken.name, expected)
            self.assertEqual(list(cache), list(other))
        self.assertGreater(made, 100)


if __name__ == "__main__":
    unittest.main()
