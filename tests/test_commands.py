"""The commands of a pipeline: points 203 and 204."""

import unittest

from pipelines import A, ALWAYS, B, FIRST, NEVER, PAGE, RULE, Both
from reference_delivery import same
from shiptrace.pipeline import Config, Pipeline
from shiptrace.plain import PlainPipeline
from shiptrace.trees import EMPTY
from support import stamped

NO_MEMBER, NO_CHANGE, OWN = ("no such member",), ("no such change",), ("own change",)
APPROVED, PROCESSED, QUEUED = ("already approved",), ("already processed",), ("already queued",)
NO_RELEASE, BLOCKED = ("no such release",), ("release is blocked",)
ALL_RINGS, TOO_FEW = ("release is in all rings",), ("too few good reports",)
NOBODY, NO_PAGE = ("no release for this user",), ("no such page",)
NO_IMPRESSION, REPORTED = ("no such impression",), ("already reported",)
CYCLE, TOO_MANY, NO_FLAG = ("flag cycle",), ("too many flags",), ("no such flag",)

WRITE = ("write", "a", "x")
DELETE = ("delete", "a")


class NewPipelineTest(unittest.TestCase):

    def test_a_new_pipeline(self):
        for pipe in (Pipeline(Config(("ann",))), PlainPipeline(Config(("ann",)))):
            self.assertEqual(pipe.state(), ((), (), (), (), (), ()))
            self.assertEqual(pipe.head, EMPTY)
            self.assertEqual(pipe.journal, ())
            self.assertEqual(pipe.tree_of(0), EMPTY)
            self.assertIsNone(pipe.release_of(0))
        pipe = Pipeline(config=Config(("ann",)))
        self.assertEqual((pipe.cached, pipe.executed, pipe.rebuilt), (0, 0, ()))
        self.assertEqual(PlainPipeline(config=Config(("ann",))).characters_read(), ())

    def test_pipelines_share_nothing(self):
        config = Config(("ann", "bob"))
        one, other = Pipeline(config), Pipeline(config)
        one.execute(("propose", "ann", 0, (WRITE,)))
        self.assertEqual(other.state()[0], ())
        self.assertEqual(other.journal, ())


class ProposeTest(unittest.TestCase):

    def test_the_edits_are_stamped(self):
        both = Both(self)
        self.assertTrue(same(both.do("propose", "ann", 0, FIRST), 0))
        self.assertTrue(same(both.do("propose", "bob", 0, (WRITE,)), 1))
        rule = ("concat", ("file", "a"), ("literal", stamped("!", 0, 2)))
        edits = (("write", "a", stamped("hi", 0)), ("set rule", "r", rule), ("set page", "p", PAGE))
        changes = (("ann", 0, edits, (), None), ("bob", 0, (("write", "a", stamped("x", 1)),), (), None))
        self.assertTrue(same(both.changes(), changes))
        self.assertEqual(both.trunk(), ())

    def test_patches_of_an_older_revision(self):
        both = Both(self)
        both.land(*FIRST)
        both.land(("write", "a", "hello"))
        self.assertEqual(both.propose(("patch", "a", ((2, 0, "!"),)), base=1), 2)
        self.assertEqual(both.refuse("propose", "ann", 1, (("patch", "a", ((3, 0, "!"),)),)), ("cannot apply", "file:a"))
        self.assertEqual(both.propose(("patch", "a", ((3, 0, "!"),)), base=2), 3)
        self.assertEqual(both.refuse("propose", "ann", 0, (("patch", "a", ((0, 0, "!"),)),)), ("cannot apply", "file:a"))

    def test_no_such_member(self):
        both = Both(self)
        self.assertEqual(both.refuse("propose", "dee", 0, (WRITE,)), NO_MEMBER)
        self.assertEqual(both.refuse("propose", "dee", 1, (WRITE, WRITE)), NO_MEMBER)

    def test_no_such_revision(self):
        both = Both(self)
        self.assertEqual(both.refuse("propose", "ann", 1, (WRITE,)), ("no such revision",))
        self.assertEqual(both.refuse("propose", "ann", 1, (DELETE, DELETE)), ("no such revision",))
        both.land(*FIRST)
        both.propose(WRITE, base=1)
        self.assertEqual(both.refuse("propose", "ann", 2, (WRITE,)), ("no such revision",))

    def test_a_duplicate_key(self):
        both = Both(self)
        self.assertEqual(both.refuse("propose", "ann", 0, (WRITE, DELETE)), ("duplicate key", "file:a"))
        edits = (DELETE, WRITE, ("set page", "a", ()), ("delete page", "a"))
        self.assertEqual(both.refuse("propose", "ann", 0, edits), ("duplicate key", "file:a"))
        edits = (DELETE, ("set owners", ()), ("set page", "a", ()), ("set owners", ()), ("set page", "a", ()))
        self.assertEqual(both.refuse("propose", "ann", 0, edits), ("duplicate key", "owners:"))

    def test_an_edit_that_does_not_apply(self):
        both = Both(self)
        edits = (WRITE, ("delete page", "p"), ("delete rule", "r"))
        self.assertEqual(both.refuse("propose", "ann", 0, edits), ("cannot apply", "page:p"))
        self.assertEqual(both.refuse("propose", "ann", 0, (("delete test", "t"),)), ("cannot apply", "test:t"))
        both.land(*FIRST)
        self.assertEqual(both.refuse("propose", "ann", 0, (("delete rule", "r"),)), ("cannot apply", "rule:r"))
        both.propose(("delete rule", "r"), base=1)

    def test_changes_that_break_the_tree_are_proposed(self):
        both = Both(self)
        self.assertEqual(both.propose(("set page", "p", ((ALWAYS, "none"),))), 0)
        self.assertEqual(both.propose(("set rule", "r", ("target", "r"))), 1)


class ApproveTest(unittest.TestCase):

    def setUp(self):
        self.both = Both(self)
        self.both.propose(*FIRST)

    def test_the_number_of_approvals(self):
        self.assertTrue(same(self.both.do("approve", "cid", 0), 1))
        self.assertTrue(same(self.both.do("approve", "bob", 0), 2))
        self.assertEqual(self.both.changes()[0][3], ("cid", "bob"))

    def test_no_such_member_and_no_such_change(self):
        self.assertEqual(self.both.refuse("approve", "dee", 0), NO_MEMBER)
        self.assertEqual(self.both.refuse("approve", "dee", 1), NO_MEMBER)
        self.assertEqual(self.both.refuse("approve", "bob", 1), NO_CHANGE)
        self.assertEqual(self.both.refuse("approve", "ann", 7), NO_CHANGE)

    def test_an_own_change(self):
        self.assertEqual(self.both.refuse("approve", "ann", 0), OWN)

    def test_twice(self):
        self.both.do("approve", "bob", 0)
        self.assertEqual(self.both.refuse("approve", "bob", 0), APPROVED)
        self.assertTrue(same(self.both.do("approve", "cid", 0), 2))
        self.assertEqual(self.both.refuse("approve", "bob", 0), APPROVED)

    def test_after_processing(self):
        self.both.do("approve", "bob", 0)
        self.both.do("enqueue", 0)
        self.assertEqual(self.both.do("merge", 1), ((0, ("landed", 0)),))
        self.assertEqual(self.both.refuse("approve", "cid", 0), PROCESSED)
        self.assertEqual(self.both.refuse("approve", "bob", 0), APPROVED)
        self.assertEqual(self.both.refuse("approve", "ann", 0), OWN)

    def test_after_a_rejection(self):
        self.both.do("enqueue", 0)
        self.assertEqual(self.both.do("merge", 1), ((0, ("rejected", ("missing approval", "file:a"))),))
        self.assertEqual(self.both.refuse("approve", "bob", 0), PROCESSED)

    def test_other_changes_stay_as_they_are(self):
        self.both.propose(WRITE)
        self.both.propose(WRITE, author="bob")
        before = self.both.changes()
        self.both.do("approve", "cid", 1)
        self.assertEqual(self.both.changes()[0], before[0])
        self.assertEqual(self.both.changes()[1], before[1][:3] + (("cid",), None))
        self.assertEqual(self.both.changes()[2], before[2])


class EnqueueTest(unittest.TestCase):

    def test_the_length_of_the_queue(self):
        both = Both(self)
        for _ in range(3):
            both.propose(WRITE)
        self.assertTrue(same([both.do("enqueue", number) for number in (2, 0, 1)], [1, 2, 3]))
        self.assertTrue(same(both.first.state()[1], (2, 0, 1)))

    def test_reasons(self):
        both = Both(self)
        self.assertEqual(both.refuse("enqueue", 0), NO_CHANGE)
        both.queue(*FIRST)
        self.assertEqual(both.refuse("enqueue", 0), QUEUED)
        self.assertEqual(both.refuse("enqueue", 1), NO_CHANGE)
        both.do("merge", 1)
        self.assertEqual(both.refuse("enqueue", 0), PROCESSED)

    def test_a_rejected_change(self):
        both = Both(self)
        both.do("enqueue", both.propose(WRITE))
        both.do("merge", 8)
        self.assertEqual(both.refuse("enqueue", 0), PROCESSED)


class MergeTest(unittest.TestCase):

    def test_an_empty_queue(self):
        both = Both(self)
        self.assertTrue(same(both.do("merge", 3), ()))
        self.assertEqual(both.first.journal, (("merge", 3),))

    def test_more_changes_than_there_are(self):
        both = Both(self)
        both.queue(*FIRST)
        both.queue(("write", "b", "x"))
        replies = ((0, ("landed", 0)), (1, ("landed", 1)))
        self.assertTrue(same(both.do("merge", 8), replies))
        self.assertEqual(both.first.state()[1], ())

    def test_the_first_changes_of_the_queue(self):
        both = Both(self)
        for number in (0, 1, 2):
            both.queue(("write", "abc"[number], "x"))
        self.assertTrue(same(both.do("merge", 2), ((0, ("landed", 0)), (1, ("landed", 1)))))
        self.assertTrue(same(both.first.state()[1], (2,)))
        self.assertTrue(same(both.do("merge", 2), ((2, ("landed", 2)),)))

    def test_the_order_of_the_queue(self):
        both = Both(self)
        for number in (0, 1, 2):
            both.propose(("write", "abc"[number], "x"))
            both.do("approve", "cid", number)
        for number in (2, 0, 1):
            both.do("enqueue", number)
        replies = ((2, ("landed", 0)), (0, ("landed", 1)), (1, ("landed", 2)))
        self.assertTrue(same(both.do("merge", 3), replies))
        self.assertEqual([change for change, _ in both.trunk()], [2, 0, 1])
        self.assertEqual([change[4] for change in both.changes()], [("landed", 1), ("landed", 2), ("landed", 0)])

    def test_outcomes(self):
        for size in (1, 2, 5):
            both = Both(self, batch_size=size)
            both.do("enqueue", both.propose(WRITE))
            both.queue(*FIRST)
            both.queue(WRITE, base=0)
            both.queue(("set page", "q", ((NEVER, "none"),)))
            both.queue(("set test", "t", ("literal", "")))
            both.queue(("set rule", "z", ("target", "z")))
            both.queue(("set rule", "s", ("target", "r")))
            replies = (
                (0, ("rejected", ("missing approval", "file:a"))),
                (1, ("landed", 0)),
                (2, ("rejected", ("conflict", 0))),
                (3, ("rejected", ("broken page", "q"))),
                (4, ("rejected", ("failing test", "t"))),
                (5, ("rejected", ("cycle", "z"))),
                (6, ("landed", 1)),
            )
            self.assertTrue(same(both.do("merge", 8), replies))
            self.assertEqual([change[4] for change in both.changes()], [outcome for _, outcome in replies])
            self.assertEqual([change for change, _ in both.trunk()], [1, 6])

    def test_the_approvals_that_they_have_now(self):
        both = Both(self)
        both.do("enqueue", both.propose(WRITE))
        both.do("approve", "cid", 0)
        self.assertEqual(both.do("merge", 1), ((0, ("landed", 0)),))
        self.assertEqual(both.changes()[0][3], ("cid",))

    def test_owners(self):
        both = Both(self)
        both.land(("set owners", (("file:*", ("cid", "ann")),)))
        both.queue(WRITE)
        both.queue(("write", "b", "x"), approver="cid")
        replies = ((1, ("rejected", ("missing approval", "file:a"))), (2, ("landed", 1)))
        self.assertEqual(both.do("merge", 2), replies)

    def test_the_threshold(self):
        test = ("coin", 0, ("literal", "x"), ("coin", 1, ("literal", "x"), ("literal", "")))
        for threshold, outcome in ((6, ("landed", 0)), (7, ("rejected", ("failing test", "t")))):
            both = Both(self, threshold=threshold)
            both.queue(("set test", "t", test))
            self.assertEqual(both.do("merge", 1), ((0, outcome),))

    def test_rebased_edits(self):
        both = Both(self)
        both.land(("write", "a", "abcd"))
        both.land(("patch", "a", ((0, 0, "xy"),)))
        both.queue(("patch", "a", ((2, 1, "Z"),)), base=1)
        self.assertEqual(both.do("merge", 1), ((2, ("landed", 2)),))
        self.assertEqual(both.trunk()[2], (2, (("patch", "a", ((4, 1, stamped("Z", 2)),)),)))
        self.assertEqual(both.changes()[2][2], (("patch", "a", ((2, 1, stamped("Z", 2)),)),))
        self.assertEqual(both.changes()[2][1], 1)
        self.assertEqual(both.first.head, both.first.tree_of(3))


class RevertTest(unittest.TestCase):

    def test_a_revert(self):
        both = Both(self)
        both.land(("write", "a", "abc"))
        both.land(("patch", "a", ((1, 1, "XY"),)))
        self.assertTrue(same(both.do("revert", "cid", 1), 2))
        edits = (("patch", "a", ((1, 2, (("b", 0, 1),)),)),)
        self.assertTrue(same(both.changes()[2], ("cid", 2, edits, (), None)))
        both.do("approve", "ann", 2)
        both.do("enqueue", 2)
        self.assertEqual(both.do("merge", 1), ((2, ("landed", 2)),))
        self.assertEqual(both.first.head[0], (("a", stamped("abc", 0)),))

    def test_an_older_commit(self):
        both = Both(self)
        both.land(("write", "a", "abcd"))
        both.land(("patch", "a", ((1, 1, "XY"),)))
        both.land(("patch", "a", ((0, 0, "!!"),)))
        both.do("revert", "ann", 1)
        self.assertEqual(both.changes()[3][1:3], (3, (("patch", "a", ((3, 2, (("b", 0, 1),)),)),)))

    def test_a_revert_of_a_revert(self):
        both = Both(self)
        both.land(("write", "a", "abc"))
        both.land(("write", "a", "xy"))
        for commit in (1, 2):
            number = both.do("revert", "bob", commit)
            both.do("approve", "ann", number)
            both.do("enqueue", number)
            self.assertEqual(both.do("merge", 1), ((number, ("landed", number)),))
        self.assertEqual(both.first.head[0], (("a", stamped("xy", 1)),))
        self.assertEqual(both.trunk()[3], (3, (("write", "a", stamped("xy", 1)),)))
        self.assertEqual(both.first.tree_of(3)[0], (("a", stamped("abc", 0)),))

    def test_the_author_cannot_approve_it(self):
        both = Both(self)
        both.land(WRITE)
        both.do("revert", "bob", 0)
        self.assertEqual(both.refuse("approve", "bob", 1), OWN)
        self.assertEqual(both.do("approve", "ann", 1), 1)

    def test_reasons(self):
        both = Both(self)
        self.assertEqual(both.refuse("revert", "dee", 0), NO_MEMBER)
        self.assertEqual(both.refuse("revert", "ann", 0), ("no such commit",))
        both.land(("write", "a", "abc"))
        both.land(("write", "b", "abc"))
        both.land(("patch", "a", ((1, 1, "X"),)))
        both.land(("patch", "a", ((1, 1, "Y"),)))
        self.assertTrue(same(both.refuse("revert", "ann", 0), ("conflict", 2)))
        self.assertTrue(same(both.refuse("revert", "ann", 2), ("conflict", 3)))
        self.assertEqual(both.refuse("revert", "ann", 4), ("no such commit",))
        self.assertEqual(both.refuse("revert", "dee", 4), NO_MEMBER)
        both.do("revert", "ann", 1)


class ReleaseTest(unittest.TestCase):

    def test_an_empty_release(self):
        both = Both(self)
        self.assertTrue(same(both.do("release"), 0))
        self.assertTrue(same(both.first.state()[3], ((0, (), 0, False),)))

    def test_the_head_tree(self):
        both = Both(self)
        both.land(*FIRST)
        both.land(("set page", "q", ((A, "r"), (NEVER, "r"))))
        self.assertTrue(same(both.do("release"), 0))
        both.land(("delete page", "p"))
        self.assertTrue(same(both.do("release"), 1))
        text = stamped("hi", 0) + stamped("!", 0, 2)
        p, q = ("p", ((ALWAYS, text),)), ("q", ((A, text), (NEVER, text)))
        self.assertTrue(same(both.first.state()[3], ((2, (p, q), 0, False), (3, (q,), 0, False))))

    def test_promote_and_block(self):
        both = Both(self, rings=(4, 16))
        self.assertEqual(both.refuse("promote", 0), NO_RELEASE)
        self.assertEqual(both.refuse("block", 0), NO_RELEASE)
        both.do("release")
        both.do("release")
        self.assertTrue(same([both.do("promote", 1), both.do("promote", 1)], [1, 2]))
        self.assertEqual(both.refuse("promote", 1), ALL_RINGS)
        self.assertTrue(same([release[2:] for release in both.first.state()[3]], [(0, False), (2, False)]))
        self.assertTrue(same(both.do("block", 1), 1))
        self.assertEqual(both.refuse("block", 1), BLOCKED)
        self.assertEqual(both.refuse("promote", 1), BLOCKED)
        self.assertEqual(both.refuse("promote", 2), NO_RELEASE)
        self.assertTrue(same([release[2:] for release in both.first.state()[3]], [(0, False), (2, True)]))

    def test_too_few_good_reports(self):
        both = Both(self, rings=(4, 16), min_good_users=1)
        both.land(*FIRST)
        both.release()
        self.assertEqual(both.refuse("promote", 0), TOO_FEW)
        both.do("serve", 0, "p")
        self.assertTrue(same(both.do("report", 0, True), 0))
        self.assertEqual(both.do("promote", 0), 2)

    def test_the_release_of_a_user(self):
        both = Both(self, rings=(4, 16))
        both.release(2)
        both.release(1)
        for pipe in both.pipes:
            self.assertEqual([pipe.release_of(user) for user in (0, 3, 15, 1)], [0, 1, 1, 0])
            self.assertEqual(pipe.release_of(user=3), 1)


class FlagTest(unittest.TestCase):

    def test_setting_and_deleting(self):
        both = Both(self)
        users = (("users", (1,), True),)
        self.assertTrue(same(both.do("set flag", "b", users, False), 1))
        self.assertTrue(same(both.do("set flag", "a", (), True), 2))
        self.assertTrue(same(both.first.state()[5], (("a", (), True), ("b", users, False))))
        self.assertTrue(same(both.do("set flag", "b", (), True), 2))
        self.assertTrue(same(both.first.state()[5], (("a", (), True), ("b", (), True))))
        self.assertTrue(same(both.do("delete flag", "a"), 1))
        self.assertTrue(same(both.first.state()[5], (("b", (), True),)))
        self.assertEqual(both.refuse("delete flag", "a"), NO_FLAG)
        self.assertTrue(same(both.do("delete flag", "b"), 0))
        self.assertEqual(both.refuse("delete flag", "b"), NO_FLAG)

    def test_the_same_flag_again(self):
        both = Both(self)
        both.do("set flag", "a", (), True)
        self.assertEqual(both.do("set flag", "a", (), True), 1)

    def test_a_flag_cycle(self):
        both = Both(self)
        self.assertEqual(both.refuse("set flag", "a", (("when", A, True),), False), CYCLE)
        both.do("set flag", "a", (("when", B, True),), False)
        self.assertEqual(both.refuse("set flag", "b", (("when", A, True),), False), CYCLE)
        both.do("set flag", "a", (), False)
        both.do("set flag", "b", (("when", A, True),), False)
        self.assertEqual(both.refuse("set flag", "a", (("when", ("not", B), True),), False), CYCLE)
        both.do("delete flag", "b")
        both.do("set flag", "a", (("when", ("not", B), True),), False)

    def test_too_many_flags(self):
        both = Both(self)
        for number in range(6):
            self.assertEqual(both.do("set flag", "f%d" % number, (), False), number + 1)
        self.assertEqual(both.refuse("set flag", "a", (), False), TOO_MANY)
        self.assertEqual(both.refuse("set flag", "z", (("when", ("flag", "z"), True),), False), CYCLE)
        self.assertEqual(both.do("set flag", "f3", (), True), 6)
        self.assertEqual(both.refuse("set flag", "f3", (("when", ("flag", "f3"), True),), False), CYCLE)
        both.do("delete flag", "f0")
        self.assertEqual(both.do("set flag", "a", (), False), 6)


class ServeTest(unittest.TestCase):

    PARTS = ((A, "r"), (ALWAYS, "s"), (("and", A, B), "r"))

    def ready(self, **fields):
        both = Both(self, **fields)
        both.land(("write", "a", "hi"), ("set rule", "r", RULE), ("set rule", "s", ("file", "a")),
                  ("set page", "p", self.PARTS), ("set page", "q", ()))
        return both

    def test_the_parts_that_are_shown(self):
        both = self.ready()
        both.release()
        self.assertTrue(same(both.do("serve", 3, "p"), 0))
        both.do("set flag", "a", (("users", (3,), True),), False)
        self.assertTrue(same(both.do("serve", 3, "p"), 1))
        self.assertTrue(same(both.do("serve", 4, "p"), 2))
        both.do("set flag", "b", (("when", A, True),), False)
        self.assertTrue(same(both.do("serve", 3, "p"), 3))
        self.assertTrue(same(both.do("serve", 3, "q"), 4))
        impressions = (
            (3, "p", 0, 0, (1,), None), (3, "p", 0, 0, (0, 1), None), (4, "p", 0, 0, (1,), None),
            (3, "p", 0, 0, (0, 1, 2), None), (3, "q", 0, 0, (), None),
        )
        self.assertTrue(same(both.first.state()[4], impressions))
        hi, mark = stamped("hi", 0), stamped("!", 0, 2)
        texts = (hi, hi + mark + hi, hi, hi + mark + hi + hi + mark, ())
        for pipe in both.pipes:
            self.assertEqual(tuple([pipe.served(number) for number in range(5)]), texts)

    def test_flags_as_they_are_now_and_the_parts_of_an_older_release(self):
        both = self.ready()
        both.release()
        both.land(("set page", "p", ((ALWAYS, "r"),)), ("write", "a", "new"))
        both.do("release")
        both.do("set flag", "a", (), True)
        both.do("serve", 0, "p")
        self.assertEqual(both.first.state()[4][0], (0, "p", 0, 0, (0, 1), None))
        both.do("promote", 1)
        both.do("serve", 0, "p")
        self.assertEqual(both.first.state()[4][1], (0, "p", 1, 0, (0,), None))
        both.do("delete flag", "a")
        old = stamped("hi", 0) + stamped("!", 0, 2) + stamped("hi", 0)
        for pipe in both.pipes:
            self.assertEqual(pipe.served(0), old)
            self.assertEqual(pipe.served(1), stamped("new", 1) + stamped("!", 0, 2))

    def test_the_ring_under_the_number_of_the_release(self):
        both = self.ready(rings=(4, 8, 16))
        both.release(3)
        both.release(3)
        for user in (0, 1, 2, 3):
            both.do("serve", user, "p")
        self.assertEqual([impression[2:4] for impression in both.first.state()[4]], [(1, 2), (1, 1), (1, 2), (1, 0)])

    def test_reasons(self):
        both = self.ready(rings=(4, 16))
        self.assertEqual(both.refuse("serve", 0, "p"), NOBODY)
        self.assertEqual(both.refuse("serve", 0, "none"), NOBODY)
        both.release()
        self.assertEqual(both.refuse("serve", 1, "none"), NOBODY)
        self.assertEqual(both.refuse("serve", 0, "none"), NO_PAGE)
        self.assertEqual(both.do("serve", 0, "p"), 0)
        both.do("block", 0)
        self.assertEqual(both.refuse("serve", 0, "p"), NOBODY)

    def test_a_page_of_another_release(self):
        both = self.ready()
        both.release()
        both.land(("delete page", "p"), ("set page", "new", ()))
        self.assertEqual(both.refuse("serve", 0, "new"), NO_PAGE)
        both.release()
        self.assertEqual(both.refuse("serve", 0, "p"), NO_PAGE)
        both.do("serve", 0, "new")


class ReportTest(unittest.TestCase):

    def test_reports_and_reasons(self):
        both = Both(self, error_budget=2)
        both.land(*FIRST)
        self.assertEqual(both.refuse("report", 0, True), NO_IMPRESSION)
        both.release()
        for user in range(4):
            both.do("serve", user, "p")
        self.assertTrue(same(both.do("report", 1, True), 1))
        self.assertTrue(same(both.do("report", 0, False), 0))
        self.assertEqual(both.refuse("report", 1, False), REPORTED)
        self.assertEqual(both.refuse("report", 4, False), NO_IMPRESSION)
        self.assertTrue(same(both.first.state()[3][0][2:], (1, False)))
        self.assertTrue(same(both.do("report", 3, False), 3))
        self.assertTrue(same(both.first.state()[3][0][2:], (1, True)))
        self.assertEqual(both.refuse("report", 2, True), BLOCKED)
        self.assertEqual(both.refuse("report", 3, True), REPORTED)
        reports = [impression[5] for impression in both.first.state()[4]]
        self.assertTrue(same(reports, [False, True, None, False]))


if __name__ == "__main__":
    unittest.main()
