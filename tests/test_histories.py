"""Histories drawn by chance: points 203 to 207, on both pipelines and the slow one."""

import random
import unittest

from reference import slow_environment
from reference_delivery import Refused, is_exact, same
from reference_pipeline import MEMBERS, START, SlowPipeline, random_command
from shiptrace.cache import Cache
from shiptrace.errors import CommandRefused
from shiptrace.merging import process_in_batches
from shiptrace.pipeline import Config, Pipeline
from shiptrace.plain import PlainPipeline
from shiptrace.rebuilding import rebuild
from shiptrace.releases import make_release_with
from shiptrace.trees import EMPTY

FULL_OF_FLAGS = tuple([("set flag", name, (), False) for name in "bcdefg"])


class History:
    """Draws commands and executes them on all three pipelines, and on a cache beside them."""

    def __init__(self, test, rng):
        self.test = test
        self.rng = rng
        self.config = Config(
            MEMBERS,
            threshold=rng.choice((1, 4, 8)),
            rings=tuple(sorted(rng.sample(range(1, 16), rng.randrange(3)))) + (16,),
            min_good_users=rng.choice((0, 0, 1)),
            error_budget=rng.choice((1, 2, 5)),
            batch_size=rng.choice((1, 2, 3, 9)),
            cache_size=rng.choice((0, 1, 4, 50)),
        )
        self.pipe, self.plain, self.slow = Pipeline(self.config), PlainPipeline(self.config), SlowPipeline(self.config)
        self.cache = Cache(self.config.cache_size)
        self.executed = 0
        self.shown = EMPTY
        self.words = {}

    def run_beside(self, command):
        """Do with the cache what the command should have done with its own."""
        changes, queue, trunk, _, _, _ = self.slow.state()
        if command[0] == "merge":
            waiting = tuple([(number,) + changes[number][:4] for number in queue[:command[1]]])
            size = self.config.batch_size
            _, _, executed = process_in_batches(trunk, waiting, self.config.threshold, size, self.cache)
            self.executed += len(executed)
        if command[0] == "release":
            self.executed += len(make_release_with(self.cache, self.slow.head(), len(trunk))[1])

    def execute(self, command):
        """Execute the command on all of them, which refuse it or reply alike."""
        if command[0] == "merge":
            preview = self.pipe.preview(command[1])
            self.check()
        self.run_beside(command)
        try:
            reply, reason = self.slow.execute(command), None
        except Refused as refused:
            reply, reason = None, refused.reason
        self.words[(command[0], reason and reason[0])] = True
        for pipe in (self.pipe, self.plain):
            try:
                told = (pipe.execute(command), None)
            except CommandRefused as refused:
                told = (None, refused.reason)
            self.test.assertTrue(same(told, (reply, reason)), (command, told, reply, reason))
        if command[0] == "merge":
            self.test.assertTrue(same(preview, reply))
        self.check()

    def check(self):
        """Check that all three tell the same."""
        state = self.slow.state()
        for pipe in (self.pipe, self.plain):
            self.test.assertTrue(same(pipe.state(), state))
            self.test.assertTrue(same(pipe.head, self.slow.head()))
            self.test.assertTrue(same(pipe.journal, tuple(self.slow.journal)))
            for user in (0, 3, 17, 999):
                self.test.assertTrue(same(pipe.release_of(user), self.slow.delivery.release_of(user)))
        self.test.assertTrue(is_exact(state))
        self.test.assertEqual((self.pipe.cached, self.pipe.executed), (len(self.cache), self.executed))

    def check_outputs(self):
        results, executed = rebuild(self.shown, self.slow.head())
        self.test.assertEqual(self.pipe.outputs(), slow_environment(self.slow.head())[1])
        self.test.assertEqual(self.pipe.rebuilt, executed)
        self.test.assertEqual(slow_environment(self.slow.head())[1], results)
        self.shown = self.slow.head()
        self.check()

    def check_records(self):
        """Check what was served in all impressions; return the number of the characters."""
        count = 0
        for impression in range(len(self.slow.delivery.shown)):
            records = self.slow.records(impression)
            count += len(records)
            for pipe in (self.pipe, self.plain):
                self.test.assertTrue(same(pipe.served(impression), tuple([record[:3] for record in records])))
            for index, record in enumerate(records):
                if index < 6:
                    self.test.assertTrue(same(self.pipe.record(impression, index), record))
                    self.test.assertIsNone(self.pipe.check_record(impression, index, record))
        self.check()
        return count

    def check_replays(self):
        journal = self.pipe.journal
        again = Pipeline.replayed(self.config, journal)
        many = self.rng.randrange(len(journal) + 1)
        other = Pipeline.replayed(self.config, journal[:many])
        for command in journal[many:]:
            other.execute(command)
        for pipe in (again, other):
            self.test.assertTrue(same(pipe.state(), self.pipe.state()))
            self.test.assertEqual((pipe.cached, pipe.executed), (self.pipe.cached, self.pipe.executed))


class HistoriesTest(unittest.TestCase):

    def test_both_pipelines_against_the_slow_one(self):
        rng = random.Random(207)
        words = {}
        characters = landed = 0
        for number in range(50):
            history = History(self, rng)
            for command in START + FULL_OF_FLAGS * (number % 4 == 0):
                history.execute(command)
            for _ in range(120):
                history.execute(random_command(rng, history.pipe))
                if rng.randrange(20) == 0:
                    history.check_outputs()
            characters += history.check_records()
            self.assertTrue(same(history.plain.characters_read(), history.slow.characters_read()))
            history.check_replays()
            words.update(history.words)
            landed += len(history.slow.trunk)
        # Far less than it is, so that a Python that draws otherwise does not fail here.
        self.assertGreater(characters, 500)
        self.assertGreater(landed, 100)
        self.assertGreater(len(words), 34, sorted(words, key=str))


if __name__ == "__main__":
    unittest.main()
