"""What the tests of pipelines use: a pipeline and a plain one side by side."""

from reference_delivery import is_exact, same
from shiptrace.errors import CommandRefused
from shiptrace.pipeline import Config, Pipeline
from shiptrace.plain import PlainPipeline

ALWAYS, NEVER, A, B = ("always",), ("never",), ("flag", "a"), ("flag", "b")
RULE = ("concat", ("file", "a"), ("literal", "!"))
PAGE = ((ALWAYS, "r"),)
FIRST = (("write", "a", "hi"), ("set rule", "r", RULE), ("set page", "p", PAGE))


class Both:
    """Executes each command on both pipelines, and checks that they answer alike."""

    def __init__(self, test, members=("ann", "bob", "cid"), **fields):
        self.test = test
        self.config = Config(members, **fields)
        self.pipes = [Pipeline(self.config), PlainPipeline(self.config)]
        self.first = self.pipes[0]

    def told(self):
        """Return what each of the two tells about itself."""
        return [(pipe.state(), pipe.head, pipe.journal) for pipe in self.pipes]

    def check_equal(self):
        one, other = self.told()
        self.test.assertTrue(same(one, other))
        self.test.assertTrue(is_exact(one))

    def do(self, *command):
        """Execute the command, which both must do, and return the reply."""
        journal = self.first.journal
        replies = [pipe.execute(command) for pipe in self.pipes]
        self.test.assertTrue(same(replies[0], replies[1]), replies)
        self.test.assertTrue(is_exact(replies[0]))
        for pipe in self.pipes:
            self.test.assertTrue(same(pipe.journal, journal + (command,)))
        self.check_equal()
        return replies[0]

    def refuse(self, *command):
        """Check that both refuse the command and do not change; return the reason."""
        before = self.told()
        counts = (self.first.cached, self.first.executed)
        reasons = []
        for pipe in self.pipes:
            with self.test.assertRaises(CommandRefused) as caught:
                pipe.execute(command)
            reasons.append(caught.exception.reason)
        self.test.assertTrue(same(reasons[0], reasons[1]))
        self.test.assertTrue(is_exact(reasons[0]))
        self.test.assertTrue(same(self.told(), before))
        self.test.assertEqual((self.first.cached, self.first.executed), counts)
        return reasons[0]

    def propose(self, *edits, author="ann", base=None):
        return self.do("propose", author, len(self.trunk()) if base is None else base, edits)

    def queue(self, *edits, author="ann", approver="bob", base=None):
        """Propose a change, approve it and append it to the queue; return its number."""
        number = self.propose(*edits, author=author, base=base)
        self.do("approve", approver, number)
        self.do("enqueue", number)
        return number

    def land(self, *edits, author="ann", approver="bob"):
        """Let a change land; return its number."""
        number = self.queue(*edits, author=author, approver=approver)
        self.test.assertEqual(self.do("merge", 1), ((number, ("landed", len(self.trunk()) - 1)),))
        return number

    def release(self, stage=1):
        """Make a release and promote it to the stage; return its number."""
        number = self.do("release")
        for _ in range(stage):
            self.do("promote", number)
        return number

    def changes(self):
        return self.first.state()[0]

    def trunk(self):
        return self.first.state()[2]
