"""The pipeline beside its commands: points 3, 205 and 206, previews, replays and counts."""

import unittest

from pipelines import A, ALWAYS, FIRST, NEVER, RULE, Both
from reference_delivery import is_exact, same
from shiptrace.errors import CommandRefused, NoSuchCharacter, NoSuchImpression, NoSuchRevision
from shiptrace.pipeline import Config, Pipeline
from shiptrace.trees import EMPTY
from support import stamped

PLACES = ("sign", "change", "index", "author", "approvals", "commit", "release", "page", "part", "path", "influences")
FIND = ("find", ("file", "a"), ("file", "b"))
REPLACED = ("replace all", ("target", "r"), ("literal", "h"), ("literal", "J"))


class SessionTest(unittest.TestCase):

    def test_the_small_session_line_by_line(self):
        pipeline = Pipeline(Config(("ann", "bob"), rings=(4, 16)))
        rule = ("concat", ("file", "a"), ("literal", "!"))
        page = ((("always",), "r"),)
        edits = (("write", "a", "hi"), ("set rule", "r", rule), ("set page", "p", page))
        self.assertTrue(same(pipeline.execute(("propose", "ann", 0, edits)), 0))
        self.assertTrue(same(pipeline.execute(("approve", "bob", 0)), 1))
        self.assertTrue(same(pipeline.execute(("enqueue", 0)), 1))
        self.assertTrue(same(pipeline.execute(("merge", 1)), ((0, ("landed", 0)),)))
        self.assertTrue(same(pipeline.execute(("release",)), 0))
        self.assertTrue(same(pipeline.execute(("promote", 0)), 1))
        self.assertTrue(same(pipeline.execute(("serve", 0, "p")), 0))
        self.assertTrue(same(pipeline.served(0), (("h", 0, 0), ("i", 0, 1), ("!", 0, 2))))


class TreesTest(unittest.TestCase):

    def test_trees_of_revisions(self):
        both = Both(self)
        both.land(("write", "a", "x"))
        both.land(("write", "b", "y"))
        for pipe in both.pipes:
            self.assertEqual(pipe.tree_of(0), EMPTY)
            self.assertEqual(pipe.tree_of(1)[0], (("a", stamped("x", 0)),))
            self.assertEqual(pipe.tree_of(revision=2)[0], (("a", stamped("x", 0)), ("b", stamped("y", 1))))
            self.assertEqual(pipe.tree_of(2), pipe.head)
            with self.assertRaises(NoSuchRevision):
                pipe.tree_of(3)


class RecordTest(unittest.TestCase):

    def served(self):
        """Return a pipeline with one impression of two parts of three."""
        both = Both(self, rings=(4, 16))
        both.land(("write", "a", "hey"), ("write", "b", "e"), ("set rule", "r", RULE), ("set rule", "f", FIND))
        both.land(("set rule", "s", REPLACED), author="bob", approver="cid")
        both.land(("set page", "o", ((ALWAYS, "f"),)), ("set page", "p", ((ALWAYS, "f"), (A, "r"), (ALWAYS, "s"))))
        both.land(("patch", "a", ((3, 0, "s"),)), author="cid", approver="ann")
        both.release(0)
        both.release(1)
        both.do("serve", 15, "p")
        return both

    def check(self, both, impression, *records):
        for index, record in enumerate(records):
            self.assertTrue(same(both.first.record(impression, index), record), both.first.record(impression, index))
            self.assertTrue(is_exact(record))
            self.assertIsNone(both.first.check_record(impression, index, record))
        self.assertEqual(tuple([record[:3] for record in records]), both.first.served(impression))
        with self.assertRaises(NoSuchCharacter):
            both.first.record(impression, len(records))

    def test_all_places(self):
        both = self.served()
        f, read = ("target", "f", 0), ((0, 3), (0, 0), (0, 1))
        e = ("e", 0, 1, "ann", ("bob",), 0, 1, "p", 0, (f, ("file", "a", 1)), read)
        more = (
            ("J", 1, 1, "bob", ("cid",), 1, 1, "p", 2, (("target", "s", 0), ("literal", "s", 1))),
            ("e", 0, 1, "ann", ("bob",), 0, 1, "p", 2, (("target", "s", 1), ("target", "r", 1), ("file", "a", 1))),
            ("y", 0, 2, "ann", ("bob",), 0, 1, "p", 2, (("target", "s", 2), ("target", "r", 2), ("file", "a", 2))),
            ("s", 3, 0, "cid", ("ann",), 3, 1, "p", 2, (("target", "s", 3), ("target", "r", 3), ("file", "a", 3))),
            ("!", 0, 4, "ann", ("bob",), 0, 1, "p", 2, (("target", "s", 4), ("target", "r", 4), ("literal", "r", 0))),
        )
        read = ((1, 0), (0, 0), (0, 1), (0, 2), (3, 0), (0, 4))
        self.check(both, 0, e, *[record + (read,) for record in more])

    def test_the_tree_of_the_revision_of_the_release(self):
        both = self.served()
        before = [both.first.record(0, index) for index in range(6)]
        both.land(("delete page", "p"), ("set page", "o", ()), ("delete rule", "r"), ("delete rule", "s"),
                  ("write", "a", ""))
        both.release(1)
        both.do("set flag", "a", (), True)
        self.check(both, 0, *before)
        both.do("serve", 14, "o")
        self.check(both, 1)

    def test_an_empty_part_before_the_character(self):
        both = Both(self)
        both.land(("set rule", "e", ("literal", "")), ("set rule", "r", ("literal", "ab")),
                  ("set page", "p", ((ALWAYS, "e"), (ALWAYS, "r"), (ALWAYS, "e"), (ALWAYS, "r"))))
        both.release()
        both.do("serve", 0, "p")
        self.assertEqual([both.first.record(0, index)[8] for index in range(4)], [1, 1, 3, 3])
        self.assertEqual(both.first.record(impression=0, index=3)[9], (("target", "r", 1), ("literal", "r", 1)))
        with self.assertRaises(NoSuchCharacter):
            both.first.record(0, 4)

    def test_characters_that_a_later_revert_restored(self):
        both = Both(self)
        both.land(("write", "b", "zz"))
        both.land(*FIRST)
        both.land(("write", "a", "yo"), author="bob", approver="cid")
        number = both.do("revert", "cid", 2)
        self.assertEqual(number, 3)
        both.do("approve", "ann", 3)
        both.do("enqueue", 3)
        self.assertEqual(both.do("merge", 1), ((3, ("landed", 3)),))
        both.release()
        both.do("serve", 0, "p")
        self.assertEqual(both.first.served(0), stamped("hi", 1) + stamped("!", 1, 2))
        self.check(both, 0, *[
            (sign, 1, index, "ann", ("bob",), 1, 0, "p", 0, (("target", "r", index), source), ())
            for index, (sign, source) in enumerate((
                ("h", ("file", "a", 0)), ("i", ("file", "a", 1)), ("!", ("literal", "r", 0)),
            ))
        ])

    def test_several_approvals_and_a_commit_with_another_number(self):
        both = Both(self)
        both.do("propose", "ann", 0, (("write", "b", "x"),))
        both.do("propose", "bob", 0, FIRST)
        both.do("approve", "cid", 1)
        both.do("approve", "ann", 1)
        both.do("enqueue", 0)
        both.do("enqueue", 1)
        both.do("merge", 2)
        both.release()
        both.do("serve", 0, "p")
        record = ("h", 1, 0, "bob", ("cid", "ann"), 0, 0, "p", 0, (("target", "r", 0), ("file", "a", 0)), ())
        self.assertTrue(same(both.first.record(0, 0), record))

    def test_each_place_changed_alone(self):
        both = self.served()
        record = both.first.record(0, 1)
        self.assertEqual(len(record), 11)
        others = ("x", 9, 9, "dee", ("ann", "cid"), 9, 9, "q", 9, (), ((1, 0),))
        for number, other in enumerate(others):
            wrong = record[:number] + (other,) + record[number + 1:]
            self.assertEqual(both.first.check_record(0, 1, wrong), PLACES[number])

    def test_two_places_changed(self):
        both = self.served()
        record = both.first.record(0, 1)
        for first in range(11):
            for second in range(first + 1, 11):
                wrong = [None if number in (first, second) else place for number, place in enumerate(record)]
                self.assertEqual(both.first.check_record(0, 1, tuple(wrong)), PLACES[first])
        self.assertEqual(both.first.check_record(impression=0, index=1, record=(None,) * 11), "sign")

    def test_what_does_not_exist(self):
        both = self.served()
        record = both.first.record(0, 0)
        for call in (
            lambda: both.first.served(1),
            lambda: both.pipes[1].served(1),
            lambda: both.first.record(1, 0),
            lambda: both.first.record(1, 999),
            lambda: both.first.check_record(1, 0, record),
            lambda: Pipeline(both.config).served(0),
            lambda: Pipeline(both.config).record(0, 0),
        ):
            self.assertRaises(NoSuchImpression, call)
        self.assertRaises(NoSuchCharacter, lambda: both.first.record(0, 6))
        self.assertRaises(NoSuchCharacter, lambda: both.first.check_record(0, 6, record))
        self.assertEqual(both.first.served(impression=0)[0], ("e", 0, 1))

    def test_records_change_nothing(self):
        both = self.served()
        before = (both.first.state(), both.first.journal, both.first.cached, both.first.executed)
        both.first.record(0, 0)
        both.first.check_record(0, 0, ("x",) * 11)
        both.first.served(0)
        self.assertTrue(same((both.first.state(), both.first.journal, both.first.cached, both.first.executed), before))


class OutputsTest(unittest.TestCase):

    def check(self, both, outputs, rebuilt):
        pipe = both.first
        before = (pipe.state(), pipe.head, pipe.journal, pipe.cached, pipe.executed)
        self.assertTrue(same(pipe.outputs(), outputs))
        self.assertTrue(same(pipe.rebuilt, rebuilt))
        self.assertTrue(same((pipe.state(), pipe.head, pipe.journal, pipe.cached, pipe.executed), before))

    def test_outputs_at_first(self):
        both = Both(self)
        self.assertEqual(both.first.rebuilt, ())
        self.check(both, (), ())

    def test_from_the_empty_tree(self):
        both = Both(self)
        both.land(*FIRST)
        both.land(("set rule", "q", ("target", "r")), ("set rule", "m", ("file", "none")))
        self.assertEqual(both.first.rebuilt, ())
        text = stamped("hi", 0) + stamped("!", 0, 2)
        outputs = (("m", ("error", ("missing file", "none"))), ("q", ("text", text)), ("r", ("text", text)))
        self.check(both, outputs, ("m", "r", "q"))

    def test_twice(self):
        both = Both(self)
        both.land(*FIRST)
        outputs = (("r", ("text", stamped("hi", 0) + stamped("!", 0, 2))),)
        self.check(both, outputs, ("r",))
        self.check(both, outputs, ())
        self.check(both, outputs, ())

    def test_from_the_head_tree_at_the_previous_call(self):
        both = Both(self)
        both.land(*FIRST)
        both.land(("set rule", "f", ("find", ("file", "a"), ("literal", "h"))))
        both.first.outputs()
        # The file has its old length again, so only the target that read its characters is executed.
        both.land(("write", "a", "longer"))
        both.land(("write", "a", "go"))
        self.assertEqual(both.first.rebuilt, ("f", "r"))
        text = stamped("go", 3) + stamped("!", 0, 2)
        self.check(both, (("f", ("text", ())), ("r", ("text", text))), ("f",))
        self.check(both, (("f", ("text", ())), ("r", ("text", text))), ())

    def test_commands_do_not_count(self):
        both = Both(self)
        both.land(*FIRST)
        both.first.outputs()
        both.release()
        self.assertEqual(both.first.rebuilt, ("r",))
        both.land(("delete page", "p"), ("delete rule", "r"))
        self.assertEqual(both.first.rebuilt, ("r",))
        self.check(both, (), ())


class PreviewTest(unittest.TestCase):

    def test_what_a_merge_would_reply(self):
        for size, cache in ((1, 0), (2, 3), (8, 50)):
            both = Both(self, batch_size=size, cache_size=cache)
            both.land(*FIRST)
            both.queue(("write", "a", "x"))
            both.queue(("set page", "p", ((ALWAYS, "none"),)))
            both.queue(("write", "a", "y"), base=1)
            both.do("enqueue", both.propose(("write", "c", "x")))
            pipe = both.first
            before = (pipe.state(), pipe.head, pipe.journal, pipe.cached, pipe.executed, pipe.rebuilt)
            outcomes = (
                (1, ("landed", 1)), (2, ("rejected", ("broken page", "p"))), (3, ("rejected", ("conflict", 1))),
                (4, ("rejected", ("missing approval", "file:c"))),
            )
            for count in (1, 2, 3, 4, 8):
                self.assertTrue(same(pipe.preview(count), outcomes[:count]))
                self.assertTrue(same(pipe.preview(count=count), outcomes[:count]))
                told = (pipe.state(), pipe.head, pipe.journal, pipe.cached, pipe.executed, pipe.rebuilt)
                self.assertTrue(same(told, before))
            self.assertTrue(same(both.do("merge", 8), outcomes))

    def test_an_empty_queue(self):
        self.assertEqual(Both(self).first.preview(1), ())


class ReplayTest(unittest.TestCase):

    def journal(self):
        both = Both(self, rings=(8, 16), batch_size=2, cache_size=3)
        both.land(*FIRST)
        both.queue(("write", "a", "yo"))
        both.queue(("set rule", "r", ("target", "r")))
        both.do("merge", 2)
        both.do("set flag", "a", (), True)
        both.release()
        both.do("serve", 0, "p")
        both.do("report", 0, True)
        return both

    def test_in_whole(self):
        both = self.journal()
        again = Pipeline.replayed(both.config, both.first.journal)
        self.assertIsInstance(again, Pipeline)
        self.assertTrue(same(again.state(), both.first.state()))
        self.assertTrue(same(again.journal, both.first.journal))
        self.assertEqual((again.head, again.served(0)), (both.first.head, both.first.served(0)))
        self.assertEqual((again.cached, again.executed), (both.first.cached, both.first.executed))

    def test_a_beginning_and_on(self):
        both = self.journal()
        journal = both.first.journal
        for many in range(len(journal) + 1):
            again = Pipeline.replayed(config=both.config, journal=journal[:many])
            self.assertTrue(same(again.journal, journal[:many]))
            for command in journal[many:]:
                again.execute(command)
            self.assertTrue(same(again.state(), both.first.state()))
            self.assertEqual((again.cached, again.executed), (both.first.cached, both.first.executed))

    def test_an_empty_journal(self):
        self.assertEqual(Pipeline.replayed(Config(("ann",)), ()).state(), ((), (), (), (), (), ()))

    def test_a_command_that_is_refused(self):
        both = self.journal()
        journal = both.first.journal + (("report", 0, True),)
        with self.assertRaises(CommandRefused) as caught:
            Pipeline.replayed(both.config, journal)
        self.assertEqual(caught.exception.reason, ("already reported",))
        with self.assertRaises(CommandRefused) as caught:
            Pipeline.replayed(both.config, (("release",), ("serve", 0, "p"), ("promote", 7)))
        self.assertEqual(caught.exception.reason, ("no release for this user",))


class CountsTest(unittest.TestCase):

    TEST = ("coin", 0, ("target", "r"), ("literal", "x"))

    def counts(self, both):
        return both.first.executed, both.first.cached

    def test_what_is_executed(self):
        both = Both(self)
        self.assertTrue(same(self.counts(both), (0, 0)))
        both.land(*FIRST)
        self.assertTrue(same(self.counts(both), (1, 1)))
        both.do("release")
        self.assertTrue(same(self.counts(both), (1, 1)))
        both.land(("set test", "t", self.TEST))
        self.assertTrue(same(self.counts(both), (3, 3)))
        both.land(("write", "a", "longer"))
        # Both what is executed for the target and for the test that reads it is new.
        self.assertTrue(same(self.counts(both), (5, 5)))

    def test_no_cache(self):
        both = Both(self, cache_size=0)
        both.land(*FIRST)
        both.land(("set test", "t", self.TEST))
        both.do("release")
        self.assertTrue(same(self.counts(both), (11, 0)))

    def test_a_small_cache(self):
        both = Both(self, cache_size=2)
        both.land(*FIRST)
        both.land(("set test", "t", self.TEST))
        self.assertEqual(both.first.cached, 2)

    def test_previews_outputs_and_refusals_do_not_count(self):
        both = Both(self)
        both.queue(*FIRST)
        both.first.preview(1)
        both.first.outputs()
        both.refuse("promote", 0)
        self.assertEqual(self.counts(both), (0, 0))
        both.do("merge", 1)
        both.first.outputs()
        self.assertEqual(self.counts(both), (1, 1))

    def test_batches(self):
        # The second change is applied and checked twice, as the first one ends its batch.
        both = Both(self, batch_size=2, cache_size=0)
        both.queue(("set rule", "r", ("literal", "")), ("set test", "t", ("target", "r")))
        both.queue(("set rule", "s", ("literal", "x")), ("set page", "p", ((NEVER, "s"),)))
        both.do("merge", 2)
        self.assertEqual([change[4][0] for change in both.changes()], ["rejected", "landed"])
        # First r and eight runs of t, then r, s and eight runs of t, and s at last.
        self.assertEqual(self.counts(both), (9 + 10 + 1, 0))


if __name__ == "__main__":
    unittest.main()
