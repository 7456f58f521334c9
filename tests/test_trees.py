"""Trees: points 54 to 56."""

import unittest

from shiptrace.trees import EMPTY, characters_of, contents_of, differing_keys, entry_of
from shiptrace.trees import paths_under, with_entry, without_entry
from support import is_plain, literal, stamped

PAIRS = (("b", 1), ("d", 2), ("f", 3))

PARTS = ((("always",), "r"), (("flag", "x"), "s"))
OWNERS = (("file:*", ("ann", "bob")), ("**", ()))


def sample():
    """Return a tree with something of each kind."""
    files = (("a", stamped("hi", 1)), ("b/c", ()), ("b/d", stamped("x", 2)))
    rules = (("r", ("concat", literal("l", 3), ("file", "a"))), ("s", ("if", literal("m", 3, 1), literal("n", 4), ("file", "a"))))
    tests = (("r", literal("t", 5)),)
    pages = (("p", PARTS), ("q", ()))
    return (files, rules, tests, pages, OWNERS)


class EntriesTest(unittest.TestCase):

    def test_the_entry_of_a_name(self):
        self.assertEqual([entry_of(PAIRS, name) for name in ("b", "d", "f")], [1, 2, 3])
        self.assertEqual(entry_of(pairs=(("x", ()),), name="x"), ())
        for name in ("a", "c", "g", "bb"):
            self.assertIsNone(entry_of(PAIRS, name))
        self.assertIsNone(entry_of((), "a"))

    def test_setting_a_name_that_is_there(self):
        self.assertEqual(with_entry(PAIRS, "b", 9), (("b", 9), ("d", 2), ("f", 3)))
        self.assertEqual(with_entry(PAIRS, "d", 9), (("b", 1), ("d", 9), ("f", 3)))
        self.assertEqual(with_entry(pairs=PAIRS, name="f", value=()), (("b", 1), ("d", 2), ("f", ())))

    def test_setting_a_new_name(self):
        self.assertEqual(with_entry(PAIRS, "a", 9), (("a", 9),) + PAIRS)
        self.assertEqual(with_entry(PAIRS, "c", 9), PAIRS[:1] + (("c", 9),) + PAIRS[1:])
        self.assertEqual(with_entry(PAIRS, "g", 9), PAIRS + (("g", 9),))
        self.assertEqual(with_entry((), "g", 9), (("g", 9),))

    def test_the_order_of_strings(self):
        names = ("z", "a", "a.", "a/", "a-", "aa", "0", "b")
        pairs = ()
        for name in names:
            pairs = with_entry(pairs, name, name)
        self.assertEqual([name for name, _ in pairs], sorted(names))
        self.assertTrue(is_plain(pairs))

    def test_removing_a_name(self):
        self.assertEqual(without_entry(PAIRS, "b"), PAIRS[1:])
        self.assertEqual(without_entry(PAIRS, "d"), (PAIRS[0], PAIRS[2]))
        self.assertEqual(without_entry(pairs=PAIRS, name="f"), PAIRS[:2])
        self.assertEqual(without_entry((("x", 1),), "x"), ())

    def test_removing_a_missing_name(self):
        for name in ("a", "c", "g"):
            self.assertEqual(without_entry(PAIRS, name), PAIRS)
        self.assertEqual(without_entry((), "a"), ())


class ContentsTest(unittest.TestCase):

    def test_the_empty_tree(self):
        self.assertEqual(EMPTY, ((), (), (), (), ()))
        for key in ("file:a", "rule:a", "test:a", "page:a"):
            self.assertIsNone(contents_of(EMPTY, key))
        self.assertEqual(contents_of(EMPTY, "owners:"), ())

    def test_each_kind(self):
        tree = sample()
        self.assertEqual(contents_of(tree, "file:a"), stamped("hi", 1))
        self.assertEqual(contents_of(tree, "file:b/c"), ())
        self.assertEqual(contents_of(tree, "rule:r"), tree[1][0][1])
        self.assertEqual(contents_of(tree, "test:r"), literal("t", 5))
        self.assertEqual(contents_of(tree, "page:p"), PARTS)
        self.assertEqual(contents_of(tree=tree, key="page:q"), ())
        self.assertEqual(contents_of(tree, "owners:"), OWNERS)

    def test_nothing_under_a_key(self):
        for key in ("file:r", "rule:a", "test:s", "page:r", "file:b"):
            self.assertIsNone(contents_of(sample(), key))

    def test_characters(self):
        expected = stamped("hi", 1) + stamped("x", 2) + stamped("lm", 3) + stamped("n", 4) + stamped("t", 5)
        self.assertEqual(characters_of(sample()), expected)
        self.assertEqual(characters_of(tree=EMPTY), ())

    def test_equal_characters_are_all_listed(self):
        text = stamped("aa", 1)
        tree = ((("a", text), ("b", text)), (("r", ("literal", text)),), (("t", ("literal", text)),), (), ())
        self.assertEqual(characters_of(tree), text * 4)

    def test_paths_under_a_prefix(self):
        tree = ((("a", ()), ("a/", ()), ("a/b", ()), ("ab", ()), ("b/a/", ())), (), (), (), ())
        self.assertEqual(paths_under(tree, "a/"), ("a/", "a/b"))
        self.assertEqual(paths_under(tree, "a"), ("a", "a/", "a/b", "ab"))
        self.assertEqual(paths_under(tree, "ab"), ("ab",))
        self.assertEqual(paths_under(tree, "abc"), ())
        self.assertEqual(paths_under(tree=tree, prefix="b"), ("b/a/",))

    def test_paths_under_the_empty_prefix(self):
        self.assertEqual(paths_under(sample(), ""), ("a", "b/c", "b/d"))
        self.assertEqual(paths_under(EMPTY, ""), ())


class DifferingTest(unittest.TestCase):

    def test_equal_trees(self):
        self.assertEqual(differing_keys(EMPTY, EMPTY), ())
        self.assertEqual(differing_keys(sample(), sample()), ())

    def test_all_keys_in_order(self):
        keys = ("file:a", "file:b/c", "file:b/d", "rule:r", "rule:s", "test:r", "page:p", "page:q", "owners:")
        self.assertEqual(differing_keys(EMPTY, sample()), keys)
        self.assertEqual(differing_keys(old=sample(), new=EMPTY), keys)

    def test_the_order_of_names_of_both_trees(self):
        old = ((("b", ()), ("d", ())), (("z", ("file", "a")),), (), (), ())
        new = ((("a", ()), ("c", ()), ("d", ())), (("y", ("file", "a")),), (), (), ())
        self.assertEqual(differing_keys(old, new), ("file:a", "file:b", "file:c", "rule:y", "rule:z"))

    def test_origins_alone(self):
        old = ((("a", stamped("x", 1)),), (("r", literal("y", 1)),), (("t", literal("z", 1)),), (), ())
        new = ((("a", stamped("x", 2)),), (("r", literal("y", 1, 1)),), (("t", literal("z", 1)),), (), ())
        result = differing_keys(old, new)
        self.assertEqual(result, ("file:a", "rule:r"))
        self.assertTrue(is_plain(result))

    def test_an_empty_value_is_not_nothing(self):
        self.assertEqual(differing_keys(EMPTY, ((("a", ()),), (), (), (), ())), ("file:a",))
        self.assertEqual(differing_keys(((), (), (), (("p", ()),), ()), EMPTY), ("page:p",))

    def test_each_kind_alone(self):
        tree = sample()
        changed = (((("x", ()),), "file:x"), ((("x", ("file", "a")),), "rule:x"),
                   ((("x", ("file", "a")),), "test:x"), ((("x", ()),), "page:x"), ((("*", ()),), "owners:"))
        for place, (value, key) in enumerate(changed):
            bare = tree[:place] + ((),) + tree[place + 1:]
            self.assertEqual(differing_keys(bare, bare[:place] + (value,) + bare[place + 1:]), (key,))

    def test_the_order_of_parts_and_owners_counts(self):
        old = ((), (), (), (("p", PARTS),), OWNERS)
        new = ((), (), (), (("p", PARTS[::-1]),), OWNERS[::-1])
        self.assertEqual(differing_keys(old, new), ("page:p", "owners:"))


if __name__ == "__main__":
    unittest.main()
