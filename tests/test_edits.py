"""Edits: points 57 to 59."""

import unittest

from shiptrace.edits import apply_edits, edits_conflict, first_inapplicable, introduced_by
from shiptrace.edits import invert_edits, key_of, rebase_edits, stamp_edits
from shiptrace.errors import CannotApply, DuplicateKey, EditsConflict
from support import is_plain, literal, stamped

PARTS = ((("always",), "r"),)
OWNERS = (("**", ("ann",)),)
RULE = ("concat", literal("ab", 1, 6), ("file", "a"))
TEST = ("coin", 0, literal("t", 1, 8), ("literal", ()))

TREE = (
    (("a", stamped("abcd", 1)), ("b", stamped("xy", 1, 4)), ("e", ())),
    (("r", RULE),),
    (("t", TEST),),
    (("p", PARTS), ("q", ())),
    OWNERS,
)

# All ten forms, written.
FORMS = (
    ("write", "w", "hi"),
    ("patch", "a", ((0, 1, "x"), (2, 0, "yz"))),
    ("delete", "b"),
    ("set rule", "u", ("concat", ("literal", "k"), ("slice", ("literal", "lm"), 0, 1))),
    ("delete rule", "r"),
    ("set test", "v", ("if", ("literal", "n"), ("literal", ""), ("literal", "o"))),
    ("delete test", "t"),
    ("set page", "s", PARTS),
    ("delete page", "p"),
    ("set owners", (("*", ()),)),
)

STAMPED = (
    ("write", "w", stamped("hi", 7)),
    ("patch", "a", ((0, 1, stamped("x", 7, 2)), (2, 0, stamped("yz", 7, 3)))),
    ("delete", "b"),
    ("set rule", "u", ("concat", literal("k", 7, 5), ("slice", literal("lm", 7, 6), 0, 1))),
    ("delete rule", "r"),
    ("set test", "v", ("if", literal("n", 7, 8), ("literal", ()), literal("o", 7, 9))),
    ("delete test", "t"),
    ("set page", "s", PARTS),
    ("delete page", "p"),
    ("set owners", (("*", ()),)),
)

KEYS = ("file:w", "file:a", "file:b", "rule:u", "rule:r", "test:v", "test:t", "page:s", "page:p", "owners:")


class KeysTest(unittest.TestCase):

    def test_written_and_stamped(self):
        self.assertEqual(tuple([key_of(edit) for edit in FORMS]), KEYS)
        self.assertEqual(tuple([key_of(edit=edit) for edit in STAMPED]), KEYS)

    def test_long_names(self):
        self.assertEqual(key_of(("delete", "a/b-c.d/e0123456")), "file:a/b-c.d/e0123456")


class StampEditsTest(unittest.TestCase):

    def test_numbers_run_over_all_edits(self):
        result = stamp_edits(FORMS, 7)
        self.assertEqual(result, STAMPED)
        self.assertTrue(is_plain(result))

    def test_each_form_alone_begins_at_zero(self):
        self.assertEqual(stamp_edits(FORMS[1:2], 3), (("patch", "a", ((0, 1, stamped("x", 3)), (2, 0, stamped("yz", 3, 1)))),))
        self.assertEqual(stamp_edits(edits=(("set rule", "u", ("literal", "k")),), change=0), (("set rule", "u", literal("k")),))
        self.assertEqual(stamp_edits((("set test", "u", ("literal", "k")),), 2), (("set test", "u", literal("k", 2)),))

    def test_no_edits(self):
        self.assertEqual(stamp_edits((), 3), ())

    def test_nothing_introduced(self):
        edits = (("write", "a", ""), ("patch", "b", ()), ("patch", "c", ((0, 1, ""),)), ("set rule", "r", ("file", "a")))
        expected = (("write", "a", ()), ("patch", "b", ()), ("patch", "c", ((0, 1, ()),)), ("set rule", "r", ("file", "a")))
        self.assertEqual(stamp_edits(edits, 5), expected)

    def test_large_numbers(self):
        change = 10 ** 21
        self.assertEqual(stamp_edits((("write", "a", "x"),), change), (("write", "a", (("x", change, 0),)),))

    def test_what_edits_introduce(self):
        self.assertEqual(introduced_by(STAMPED), stamped("hixyzklmno", 7))
        self.assertEqual(introduced_by(edits=STAMPED[2:3] + STAMPED[4:5] + STAMPED[6:]), ())
        self.assertEqual(introduced_by(()), ())
        text = stamped("aa", 4, 9)
        self.assertEqual(introduced_by((("write", "a", text), ("write", "b", text))), text + text)


class ApplicableTest(unittest.TestCase):

    def test_what_always_applies(self):
        for edit in (FORMS[0], FORMS[3], FORMS[5], FORMS[7], FORMS[9]):
            self.assertIsNone(first_inapplicable(TREE, (edit,)))
            self.assertIsNone(first_inapplicable(((), (), (), (), ()), (edit,)))
        for edit in (("write", "a", ""), ("set rule", "r", ("file", "z")), ("set test", "t", ("file", "z")),
                     ("set page", "p", ()), ("set owners", ())):
            self.assertIsNone(first_inapplicable(TREE, (edit,)))

    def test_all_forms_at_once(self):
        self.assertIsNone(first_inapplicable(TREE, FORMS))
        self.assertIsNone(first_inapplicable(tree=TREE, edits=STAMPED))
        self.assertIsNone(first_inapplicable(TREE, ()))

    def test_removing_what_is_not_there(self):
        missing = (("delete", "r"), ("delete rule", "t"), ("delete test", "p"), ("delete page", "a"))
        for edit, key in zip(missing, ("file:r", "rule:t", "test:p", "page:a")):
            self.assertEqual(first_inapplicable(TREE, (edit,)), key)

    def test_removing_what_is_empty(self):
        self.assertIsNone(first_inapplicable(TREE, (("delete", "e"), ("delete page", "q"))))

    def test_patches(self):
        self.assertEqual(first_inapplicable(TREE, (("patch", "w", ()),)), "file:w")
        self.assertEqual(first_inapplicable(TREE, (("patch", "a", ((4, 1, ""),)),)), "file:a")
        self.assertEqual(first_inapplicable(TREE, (("patch", "a", ((4, 0, ""),)),)), "file:a")
        self.assertEqual(first_inapplicable(TREE, (("patch", "a", ((0, 1, ()), (1, 1, ()))),)), "file:a")
        self.assertIsNone(first_inapplicable(TREE, (("patch", "a", ((4, 0, "x"),)),)))
        self.assertIsNone(first_inapplicable(TREE, (("patch", "a", ()),)))
        self.assertIsNone(first_inapplicable(TREE, (("patch", "e", ((0, 0, "x"),)),)))

    def test_the_first_of_several(self):
        edits = (("write", "w", "x"), ("delete rule", "x"), ("delete", "z"), ("patch", "a", ((9, 1, ""),)))
        self.assertEqual(first_inapplicable(TREE, edits), "rule:x")
        self.assertEqual(first_inapplicable(TREE, edits[::-1]), "file:a")

    def test_the_tree_before_all_edits_counts(self):
        self.assertEqual(first_inapplicable(TREE, (("write", "w", "x"), ("delete rule", "w"))), "rule:w")

    def check_duplicate(self, edits, key):
        for call in (first_inapplicable, apply_edits, invert_edits):
            with self.assertRaises(DuplicateKey) as caught:
                call(TREE, edits)
            self.assertEqual(caught.exception.key, key)

    def test_a_key_twice(self):
        self.check_duplicate((("write", "a", ()), ("delete", "a")), "file:a")
        self.check_duplicate((("patch", "a", ()), ("patch", "a", ())), "file:a")
        self.check_duplicate((("delete rule", "r"), ("set rule", "r", ("file", "a"))), "rule:r")
        self.check_duplicate((("set owners", ()), ("set owners", ())), "owners:")

    def test_the_first_edit_with_an_earlier_key(self):
        edits = (("write", "a", ()), ("write", "b", ()), ("delete", "b"), ("delete", "a"))
        self.check_duplicate(edits, "file:b")

    def test_a_key_twice_is_told_first(self):
        self.check_duplicate((("delete", "z"), ("write", "b", ()), ("delete", "b")), "file:b")
        self.check_duplicate((("write", "z", ()), ("delete", "z")), "file:z")
        self.check_duplicate((("delete", "z"), ("delete", "z")), "file:z")

    def test_one_name_under_different_keys(self):
        edits = (("write", "x", ""), ("set rule", "x", ("file", "a")), ("set test", "x", ("file", "a")), ("set page", "x", ()))
        self.assertIsNone(first_inapplicable(TREE, edits))


class ApplyTest(unittest.TestCase):

    def test_all_forms(self):
        result = apply_edits(TREE, STAMPED)
        patched = stamped("x", 7, 2) + stamped("b", 1, 1) + stamped("yz", 7, 3) + stamped("cd", 1, 2)
        expected = (
            (("a", patched), ("e", ()), ("w", stamped("hi", 7))),
            (("u", STAMPED[3][2]),),
            (("v", STAMPED[5][2]),),
            (("q", ()), ("s", PARTS)),
            (("*", ()),),
        )
        self.assertEqual(result, expected)
        self.assertEqual(apply_edits(tree=TREE, edits=STAMPED), expected)
        self.assertTrue(is_plain(result))

    def test_replacing(self):
        edits = (("write", "a", ()), ("set rule", "r", ("file", "z")), ("set test", "t", ("file", "y")), ("set page", "p", ()), ("set owners", ()))
        expected = ((("a", ()),) + TREE[0][1:], (("r", ("file", "z")),), (("t", ("file", "y")),), (("p", ()), ("q", ())), ())
        self.assertEqual(apply_edits(TREE, edits), expected)

    def test_no_edits(self):
        self.assertEqual(apply_edits(TREE, ()), TREE)

    def test_the_argument_stays(self):
        before = repr(TREE)
        apply_edits(TREE, STAMPED)
        invert_edits(TREE, STAMPED)
        self.assertEqual(repr(TREE), before)

    def test_an_edit_that_does_not_apply(self):
        wrong = (("delete", "z"), ("patch", "z", ()), ("patch", "a", ((5, 0, stamped("x")),)),
                 ("delete rule", "z"), ("delete test", "z"), ("delete page", "z"))
        keys = ("file:z", "file:z", "file:a", "rule:z", "test:z", "page:z")
        for call in (apply_edits, invert_edits):
            for edit, key in zip(wrong, keys):
                with self.assertRaises(CannotApply) as caught:
                    call(TREE, (("write", "w", ()), edit, ("delete", "y")))
                self.assertEqual(caught.exception.key, key)


class InvertTest(unittest.TestCase):

    def check(self, edit, expected):
        self.assertEqual(invert_edits(TREE, (edit,)), (expected,))
        there = apply_edits(TREE, (edit,))
        self.assertEqual(apply_edits(there, (expected,)), TREE)

    def test_files(self):
        self.check(("write", "w", stamped("q", 9)), ("delete", "w"))
        self.check(("write", "b", stamped("q", 9)), ("write", "b", stamped("xy", 1, 4)))
        self.check(("write", "e", stamped("q", 9)), ("write", "e", ()))
        self.check(("delete", "b"), ("write", "b", stamped("xy", 1, 4)))
        self.check(("delete", "e"), ("write", "e", ()))

    def test_patches(self):
        hunks = ((0, 1, stamped("pq", 9)), (3, 0, stamped("r", 9, 2)))
        self.check(("patch", "a", hunks), ("patch", "a", ((0, 2, stamped("a", 1)), (4, 1, ()))))
        self.check(("patch", "a", ()), ("patch", "a", ()))

    def test_rules_tests_and_pages(self):
        self.check(("set rule", "z", ("file", "a")), ("delete rule", "z"))
        self.check(("set rule", "r", ("file", "a")), ("set rule", "r", RULE))
        self.check(("delete rule", "r"), ("set rule", "r", RULE))
        self.check(("set test", "z", ("file", "a")), ("delete test", "z"))
        self.check(("set test", "t", ("file", "a")), ("set test", "t", TEST))
        self.check(("delete test", "t"), ("set test", "t", TEST))
        self.check(("set page", "z", ()), ("delete page", "z"))
        self.check(("set page", "p", ()), ("set page", "p", PARTS))
        self.check(("delete page", "p"), ("set page", "p", PARTS))
        self.check(("delete page", "q"), ("set page", "q", ()))

    def test_owners(self):
        self.check(("set owners", ()), ("set owners", OWNERS))
        empty = ((), (), (), (), ())
        self.assertEqual(invert_edits(empty, (("set owners", OWNERS),)), (("set owners", ()),))

    def test_all_at_once(self):
        inverse = invert_edits(tree=TREE, edits=STAMPED)
        self.assertEqual([key_of(edit) for edit in inverse], list(KEYS))
        self.assertEqual(apply_edits(apply_edits(TREE, STAMPED), inverse), TREE)
        self.assertTrue(is_plain(inverse))
        self.assertEqual(invert_edits(TREE, ()), ())


class ConflictsTest(unittest.TestCase):

    def check(self, first, second, key):
        """`key` is that of the conflict, None if there is none."""
        for one, other in ((first, second), (second, first)):
            self.assertIs(edits_conflict(one, other), key is not None)
        if key is not None:
            with self.assertRaises(EditsConflict) as caught:
                rebase_edits(first, second)
            self.assertEqual(caught.exception.key, key)

    def test_the_same_key(self):
        self.check((("write", "a", ()),), (("delete", "a"),), "file:a")
        self.check((("write", "a", ()),), (("write", "a", ()),), "file:a")
        self.check((("write", "a", ()),), (("patch", "a", ()),), "file:a")
        self.check((("patch", "a", ()),), (("write", "a", ()),), "file:a")
        self.check((("patch", "a", ()),), (("delete", "a"),), "file:a")
        self.check((("set rule", "r", RULE),), (("set rule", "r", RULE),), "rule:r")
        self.check((("set test", "t", TEST),), (("delete test", "t"),), "test:t")
        self.check((("set page", "p", ()),), (("delete page", "p"),), "page:p")
        self.check((("set owners", ()),), (("set owners", ()),), "owners:")

    def test_different_keys(self):
        self.check((("write", "a", ()),), (("delete", "b"),), None)
        self.check((("set rule", "x", RULE),), (("set test", "x", RULE),), None)
        self.check((("write", "a", ()), ("delete", "b")), (("set owners", ()), ("patch", "e", ())), None)
        self.check((), (("write", "a", ()),), None)
        self.check((), (), None)

    def test_two_patches_of_one_file(self):
        patch = (("patch", "a", ((1, 1, stamped("x", 2)),)),)
        self.check(patch, (("patch", "a", ((3, 0, stamped("y", 3)),)),), None)
        self.check(patch, (("patch", "a", ((2, 1, ()),)),), "file:a")
        self.check(patch, (("patch", "a", ((0, 1, ()),)),), "file:a")
        self.check(patch, (("patch", "a", ()),), None)
        self.check(patch, (("patch", "b", ((1, 1, ()),)),), None)
        self.check(patch, patch, "file:a")

    def test_the_first_edit_that_conflicts(self):
        first = (("write", "w", ()), ("delete rule", "r"), ("write", "a", ()))
        second = (("delete", "a"), ("set owners", ()), ("set rule", "r", RULE))
        self.check(first, second, "rule:r")
        self.check(second, first, "file:a")

    def test_rebasing_patches(self):
        edits = (("write", "w", ()), ("patch", "a", ((3, 1, stamped("y", 3)),)), ("patch", "b", ((0, 0, stamped("z", 3, 1)),)))
        over = (("patch", "a", ((0, 1, stamped("pqr", 4)),)), ("write", "e", ()))
        expected = (edits[0], ("patch", "a", ((5, 1, stamped("y", 3)),)), edits[2])
        result = rebase_edits(edits, over)
        self.assertEqual(result, expected)
        self.assertTrue(is_plain(result))
        self.assertEqual(rebase_edits(edits=over, over=edits), over)

    def test_rebasing_over_none(self):
        self.assertEqual(rebase_edits(STAMPED, ()), STAMPED)
        self.assertEqual(rebase_edits((), STAMPED), ())

    def test_whichever_is_applied_first(self):
        one = (("patch", "a", ((0, 1, stamped("pqr", 3)), (4, 0, stamped("s", 3, 3)))), ("delete", "b"))
        other = (("patch", "a", ((2, 1, ()),)), ("write", "w", stamped("t", 4)), ("set owners", ()))
        results = [
            apply_edits(apply_edits(TREE, first), rebase_edits(second, first))
            for first, second in ((one, other), (other, one))
        ]
        self.assertEqual(results[0], results[1])
        expected = stamped("pqr", 3) + stamped("b", 1, 1) + stamped("d", 1, 3) + stamped("s", 3, 3)
        self.assertEqual(results[0][0][0], ("a", expected))


if __name__ == "__main__":
    unittest.main()
