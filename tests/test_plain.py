"""The plain pipeline: what it collects (207). Its commands are tested beside those of the pipeline."""

import unittest

from pipelines import ALWAYS, NEVER
from reference_delivery import same
from shiptrace.errors import CommandRefused
from shiptrace.pipeline import Config
from shiptrace.plain import PlainPipeline

FIND = ("find", ("file", "a"), ("literal", "y"))
PAGE = ("set page", "p", ((ALWAYS, "f"),))


class CollectedTest(unittest.TestCase):

    def setUp(self):
        self.pipe = PlainPipeline(Config(("ann", "bob"), threshold=1))

    def process(self, *edits, base=None, approved=True):
        """Propose a change and process it; return the word of its outcome, or the reason."""
        base = len(self.pipe.state()[2]) if base is None else base
        number = self.pipe.execute(("propose", "ann", base, edits))
        if approved:
            self.pipe.execute(("approve", "bob", number))
        self.pipe.execute(("enqueue", number))
        word, reason = self.pipe.execute(("merge", 1))[0][1]
        return word if word == "landed" else reason[0]

    def check(self, *origins):
        self.assertTrue(same(self.pipe.characters_read(), origins), self.pipe.characters_read())

    def test_nothing(self):
        self.check()
        self.pipe.execute(("merge", 1))
        self.pipe.execute(("release",))
        self.check()
        self.assertEqual(self.process(("write", "a", "xyz"), ("set rule", "f", FIND)), "landed")
        self.check()

    def test_a_change_that_lands(self):
        self.assertEqual(self.process(("write", "a", "xyz"), ("set rule", "f", FIND), PAGE), "landed")
        self.check((0, 0), (0, 1), (0, 3))
        self.assertEqual(self.process(("write", "b", "")), "landed")
        self.check((0, 0), (0, 1), (0, 3))

    def test_a_test_under_all_seeds(self):
        test = ("coin", 2, ("dynamic file", ("literal", "b")), ("dynamic file", ("literal", "a")))
        self.assertEqual(self.process(("write", "a", "xyz"), ("set test", "t", test)), "landed")
        self.check((0, 3), (0, 4))

    def test_a_change_with_a_broken_page(self):
        rule = ("concat", FIND, ("file", "none"))
        page = ("set page", "p", ((NEVER, "f"),))
        edits = (("write", "a", "xyz"), ("set rule", "f", rule), page)
        self.assertEqual(self.process(*edits), "broken page")
        self.check((0, 0), (0, 1), (0, 3))

    def test_a_change_with_a_failing_test(self):
        self.assertEqual(self.process(("write", "a", "ab"), ("set test", "t", FIND)), "failing test")
        self.check((0, 0), (0, 1), (0, 2))

    def test_a_change_with_a_problem_of_form(self):
        edits = (("write", "a", "xyz"), ("set rule", "f", FIND), PAGE, ("set rule", "z", ("target", "z")))
        self.assertEqual(self.process(*edits), "cycle")
        self.check()

    def test_changes_that_are_not_checked(self):
        edits = (("write", "a", "xyz"), ("set rule", "f", FIND), PAGE)
        self.assertEqual(self.process(*edits, approved=False), "missing approval")
        self.check()
        self.assertEqual(self.process(("write", "a", "q")), "landed")
        self.assertEqual(self.process(*edits, base=0), "conflict")
        self.check()

    def test_a_change_that_is_never_processed(self):
        self.pipe.execute(("propose", "ann", 0, (("write", "a", "xyz"), ("set test", "t", FIND))))
        self.pipe.execute(("approve", "bob", 0))
        self.pipe.execute(("enqueue", 0))
        self.check()

    def test_the_head_tree_with_the_rebased_edits(self):
        self.assertEqual(self.process(("write", "a", "xyz")), "landed")
        self.assertEqual(self.process(("patch", "a", ((0, 0, "q"),))), "landed")
        edits = (("patch", "a", ((2, 1, "w"),)), ("set rule", "f", ("find", ("file", "a"), ("literal", "w"))), PAGE)
        self.assertEqual(self.process(*edits, base=1), "landed")
        self.check((0, 0), (0, 1), (1, 0), (2, 0), (2, 1))

    def test_several_changes_of_one_merge(self):
        for number, edits in enumerate((
            (("write", "a", "ab"), ("set test", "t", FIND)),
            (("write", "a", "xyz"), ("set rule", "f", FIND), PAGE),
            (("write", "a", "zz"),),
        )):
            self.pipe.execute(("propose", "ann", 0, edits))
            self.pipe.execute(("approve", "bob", number))
            self.pipe.execute(("enqueue", number))
        outcomes = [outcome for _, outcome in self.pipe.execute(("merge", 3))]
        self.assertEqual(outcomes, [("rejected", ("failing test", "t")), ("landed", 0), ("rejected", ("conflict", 0))])
        self.check((0, 0), (0, 1), (0, 2), (1, 0), (1, 1), (1, 3))

    def test_releases(self):
        # As soon as the file has another text, the next check of the tree reads it, and so does a release.
        self.assertEqual(self.process(("write", "a", "xyz"), ("set rule", "f", FIND), PAGE), "landed")
        before = self.pipe.characters_read()
        self.pipe.execute(("release",))
        self.check(*before)
        self.assertEqual(self.pipe.execute(("promote", 0)), 1)
        self.pipe.execute(("serve", 0, "p"))
        self.assertEqual(self.pipe.served(0), (("y", 0, 1),))
        self.check(*before)

    def test_ascending_order_of_numbers(self):
        for number in range(11):
            edits = (("write", "a", "ab"), ("set rule", "f", ("find", ("file", "a"), ("literal", "b"))), PAGE)
            self.assertEqual(self.process(*edits), "landed")
        self.check(*[(number, index) for number in range(11) for index in range(3)])

    def test_refused_commands(self):
        with self.assertRaises(CommandRefused):
            self.pipe.execute(("promote", 0))
        self.assertEqual(self.pipe.journal, ())
        self.check()


if __name__ == "__main__":
    unittest.main()
