"""Trunk: points 60 to 64."""

import unittest

from shiptrace.edits import apply_edits, stamp_edits
from shiptrace.errors import ConflictsWith, NoSuchCommit, NoSuchRevision
from shiptrace.trees import EMPTY
from shiptrace.trunk import rebase_to_head, revert_of, tree_at, trunk_without, with_earlier
from support import is_plain, signs, stamped


def commit(change, *edits):
    return (change, stamp_edits(edits, change))


def patch(*hunks):
    return ("patch", "a", hunks)


# The file a is "abcdefgh", "XYbcdefgh", "XYb!cdefgh", "XYb!cefgh", "XYb!cefgh?" at the revisions 1 to 5.
TRUNK = (
    commit(0, ("write", "a", "abcdefgh"), ("set rule", "r", ("literal", "l"))),
    commit(1, patch((0, 1, "XY"))),
    commit(2, patch((3, 0, "!"))),
    commit(3, patch((5, 1, "")), ("write", "b", "B")),
    commit(4, patch((9, 0, "?"))),
)


def text_of(trunk, revision):
    """Return the signs of the first file."""
    return signs(tree_at(trunk, revision)[0][0][1])


class TrunkTest(unittest.TestCase):

    def check_conflict(self, number, call, *arguments):
        with self.assertRaises(ConflictsWith) as caught:
            call(*arguments)
        self.assertEqual(caught.exception.commit, number)


class TreeAtTest(TrunkTest):

    def test_each_revision(self):
        texts = [text_of(TRUNK, revision) for revision in range(1, 6)]
        self.assertEqual(texts, ["abcdefgh", "XYbcdefgh", "XYb!cdefgh", "XYb!cefgh", "XYb!cefgh?"])
        tree = EMPTY
        for revision in range(6):
            self.assertEqual(tree_at(TRUNK, revision), tree)
            if revision < 5:
                tree = apply_edits(tree, TRUNK[revision][1])

    def test_origins(self):
        tree = tree_at(trunk=TRUNK, revision=2)
        expected = stamped("XY", 1) + stamped("bcdefgh", 0, 1)
        rule = ("r", ("literal", (("l", 0, 8),)))
        self.assertEqual(tree, ((("a", expected),), (rule,), (), (), ()))
        self.assertTrue(is_plain(tree))

    def test_the_empty_trunk(self):
        self.assertEqual(tree_at((), 0), EMPTY)
        self.assertEqual(tree_at(TRUNK, 0), EMPTY)

    def test_a_revision_that_does_not_exist(self):
        for trunk, revision in (((), 1), (TRUNK, 6), (TRUNK, 10 ** 21)):
            with self.assertRaises(NoSuchRevision):
                tree_at(trunk, revision)


class RebaseToHeadTest(TrunkTest):

    def test_from_each_revision(self):
        end = stamped("z", 9)
        at_end = [8, 9, 10, 9]
        for revision in range(1, 5):
            edits = (patch((at_end[revision - 1] - 1, 0, end)),)
            self.assertEqual(rebase_to_head(TRUNK, revision, edits), (patch((8, 0, end)),))

    def test_from_the_head(self):
        edits = (patch((0, 1, ())), ("delete", "b"))
        self.assertEqual(rebase_to_head(TRUNK, 5, edits), edits)
        self.assertEqual(rebase_to_head((), 0, (("write", "a", ()),)), (("write", "a", ()),))
        self.assertEqual(rebase_to_head(trunk=TRUNK, revision=0, edits=()), ())

    def test_the_way_counts(self):
        # Over all edits at once the index would be that of another character.
        trunk = (commit(0, ("write", "a", "abcdef")), commit(1, patch((0, 0, "xxxx"))), commit(2, patch((6, 0, "y"))))
        edits = (patch((4, 1, ())), ("write", "c", ()))
        result = rebase_to_head(trunk, 1, edits)
        self.assertEqual(result, (patch((9, 1, ())), ("write", "c", ())))
        self.assertTrue(is_plain(result))

    def test_conflicts(self):
        self.check_conflict(0, rebase_to_head, TRUNK, 0, (("write", "a", ()),))
        self.check_conflict(1, rebase_to_head, TRUNK, 1, (("write", "a", ()),))
        self.check_conflict(4, rebase_to_head, TRUNK, 4, (("write", "a", ()),))
        self.check_conflict(3, rebase_to_head, TRUNK, 1, (("write", "b", ()),))
        self.check_conflict(0, rebase_to_head, TRUNK, 0, (("set rule", "r", ("file", "a")),))

    def test_conflicts_on_the_way(self):
        # These two touch what is inserted or removed only after they have been rebased.
        self.check_conflict(2, rebase_to_head, TRUNK, 1, (patch((2, 1, ())),))
        self.check_conflict(3, rebase_to_head, TRUNK, 1, (patch((4, 0, stamped("z", 9))),))
        self.check_conflict(4, rebase_to_head, TRUNK, 1, (patch((8, 0, stamped("z", 9))),))
        self.check_conflict(1, rebase_to_head, TRUNK, 1, (patch((0, 1, ())),))

    def test_a_revision_that_does_not_exist(self):
        for trunk, revision in (((), 1), (TRUNK, 6)):
            with self.assertRaises(NoSuchRevision):
                rebase_to_head(trunk, revision, (("write", "a", ()),))


class WithEarlierTest(TrunkTest):

    def test_at_the_head(self):
        last = commit(9, ("write", "c", "x"))
        self.assertEqual(with_earlier(TRUNK, 5, last), TRUNK + (last,))
        self.assertEqual(with_earlier((), 0, last), (last,))

    def test_at_the_first_revision(self):
        first = commit(9, ("write", "c", "x"), ("set owners", ()))
        self.assertEqual(with_earlier(trunk=TRUNK, revision=0, commit=first), (first,) + TRUNK)

    def test_later_commits_are_moved(self):
        early = commit(9, patch((6, 1, "12345")))
        result = with_earlier(TRUNK, 1, early)
        self.assertEqual(result[:2], (TRUNK[0], early))
        self.assertEqual(result[2:4], TRUNK[1:3])
        self.assertEqual(result[4], TRUNK[3])
        self.assertEqual(result[5], (4, (patch((13, 0, stamped("?", 4))),)))
        self.assertEqual([text_of(result, revision) for revision in range(1, 7)], [
            "abcdefgh", "abcdef12345h", "XYbcdef12345h", "XYb!cdef12345h", "XYb!cef12345h", "XYb!cef12345h?",
        ])
        self.assertTrue(is_plain(result))

    def test_the_moved_edits_change_on_the_way(self):
        # With the earlier edits as they were at revision 1, commit 2 would be moved by two.
        trunk = (
            commit(0, ("write", "a", "abcdef")),
            commit(1, patch((0, 0, "xxxx"))),
            commit(2, patch((7, 0, "y"))),
        )
        result = with_earlier(trunk, 1, commit(9, patch((4, 0, "12"))))
        self.assertEqual(result[3], (2, (patch((7, 0, stamped("y", 2))),)))
        self.assertEqual(text_of(result, 4), "xxxxabcyd12ef")

    def test_conflicts(self):
        self.check_conflict(1, with_earlier, TRUNK, 1, commit(9, ("write", "a", "x")))
        self.check_conflict(0, with_earlier, TRUNK, 0, commit(9, ("write", "a", "x")))
        self.check_conflict(3, with_earlier, TRUNK, 0, commit(9, ("write", "b", "x")))
        self.check_conflict(2, with_earlier, TRUNK, 1, commit(9, patch((2, 0, "z"))))
        self.check_conflict(4, with_earlier, TRUNK, 2, commit(9, patch((8, 1, ""))))

    def test_a_revision_that_does_not_exist(self):
        for trunk, revision in (((), 1), (TRUNK, 6)):
            with self.assertRaises(NoSuchRevision):
                with_earlier(trunk, revision, commit(9, ("write", "a", "x")))


class RevertTest(TrunkTest):

    def test_of_the_last_commit(self):
        self.assertEqual(revert_of(TRUNK, 4), (patch((9, 1, ())),))

    def test_of_an_earlier_commit(self):
        self.assertEqual(revert_of(TRUNK, 1), (patch((0, 2, stamped("a", 0))),))
        self.assertEqual(revert_of(trunk=TRUNK, commit=2), (patch((3, 1, ())),))
        expected = (patch((5, 0, stamped("d", 0, 3))), ("delete", "b"))
        result = revert_of(TRUNK, 3)
        self.assertEqual(result, expected)
        self.assertTrue(is_plain(result))

    def test_the_edits_apply_to_the_head(self):
        for number, text in ((1, "ab!cefgh?"), (2, "XYbcefgh?"), (3, "XYb!cdefgh?"), (4, "XYb!cefgh")):
            trunk = TRUNK + ((9, revert_of(TRUNK, number)),)
            self.assertEqual(text_of(trunk, 6), text)

    def test_of_a_revert(self):
        once = TRUNK + ((5, revert_of(TRUNK, 1)),)
        self.assertEqual(revert_of(once, 5), (patch((0, 1, stamped("XY", 1))),))
        twice = once + ((6, revert_of(once, 5)),)
        self.assertEqual(tree_at(twice, 7), tree_at(TRUNK, 5))

    def test_what_replaced_something(self):
        trunk = (
            commit(0, ("write", "a", "x"), ("set rule", "r", ("literal", "l")), ("set owners", (("*", ()),))),
            commit(1, ("delete", "a"), ("set rule", "r", ("file", "a")), ("set owners", ())),
        )
        expected = (
            ("write", "a", stamped("x", 0)), ("set rule", "r", ("literal", stamped("l", 0, 1))),
            ("set owners", (("*", ()),)),
        )
        self.assertEqual(revert_of(trunk, 1), expected)
        self.check_conflict(1, revert_of, trunk, 0)

    def test_conflicts(self):
        self.check_conflict(1, revert_of, TRUNK, 0)
        trunk = TRUNK + (commit(5, ("write", "b", "C")),)
        self.check_conflict(5, revert_of, trunk, 3)
        trunk = TRUNK + (commit(5, ("write", "c", "C")), commit(6, patch((3, 1, ""))))
        self.check_conflict(6, revert_of, trunk, 2)

    def test_a_commit_that_does_not_exist(self):
        for trunk, number in (((), 0), (TRUNK, 5), (TRUNK, 10 ** 21)):
            with self.assertRaises(NoSuchCommit):
                revert_of(trunk, number)


class WithoutTest(TrunkTest):

    def test_without_the_last_commit(self):
        self.assertEqual(trunk_without(TRUNK, 4), TRUNK[:4])
        self.assertEqual(trunk_without(TRUNK[:1], 0), ())

    def test_later_commits_are_moved(self):
        result = trunk_without(trunk=TRUNK, commit=1)
        self.assertEqual(result[0], TRUNK[0])
        self.assertEqual(result[1], (2, (patch((2, 0, stamped("!", 2))),)))
        self.assertEqual(result[2], (3, (patch((4, 1, ())), ("write", "b", stamped("B", 3)))))
        self.assertEqual(result[3], (4, (patch((8, 0, stamped("?", 4))),)))
        self.assertTrue(is_plain(result))

    def test_the_head_is_that_of_the_revert(self):
        for number in (1, 2, 3, 4):
            reverted = TRUNK + ((9, revert_of(TRUNK, number)),)
            self.assertEqual(tree_at(trunk_without(TRUNK, number), 4), tree_at(reverted, 6))

    def test_it_undoes_an_earlier_commit(self):
        early = commit(9, patch((6, 1, "12345")))
        self.assertEqual(trunk_without(with_earlier(TRUNK, 1, early), 1), TRUNK)

    def test_conflicts(self):
        self.check_conflict(1, trunk_without, TRUNK, 0)
        trunk = TRUNK + (commit(5, ("write", "b", "C")),)
        self.check_conflict(5, trunk_without, trunk, 3)

    def test_a_commit_that_does_not_exist(self):
        for trunk, number in (((), 0), (TRUNK, 5)):
            with self.assertRaises(NoSuchCommit):
                trunk_without(trunk, number)


if __name__ == "__main__":
    unittest.main()
