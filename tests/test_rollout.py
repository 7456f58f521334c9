"""Rollout: point 184."""

import random
import unittest

from reference_delivery import is_exact, same, slow_release_for
from shiptrace.rollout import Rollout, release_for

NOBODY = (None,) * 16


class ReleaseForTest(unittest.TestCase):

    def check(self, bounds, states, expected):
        for user, release in expected.items():
            self.assertEqual(release_for(bounds, states, user), release, user)
            self.assertEqual(slow_release_for(bounds, states, user), release, user)

    def test_no_releases(self):
        self.check((16,), (), {0: None, 999: None})
        self.check((16,), ((0, False), (0, False)), {0: None, 5: None})

    def test_rings(self):
        self.check((8, 16), ((1, False),), {0: 0, 1: None, 2: 0, 3: None})
        self.check((8, 16), ((2, False),), {0: 0, 1: 0})
        self.check((1, 8, 16), ((2, False),), {0: 0, 2: 0, 8: 0, 1: None})
        self.check((1, 8, 16), ((1, False),), {0: 0, 2: None, 8: None, 16: 0})

    def test_the_number_of_the_release_is_the_salt(self):
        self.check((8, 16), ((0, False), (1, False)), {0: None, 1: 1, 3: 1, 15: 1})
        self.check((1, 16), ((1, True),) * 5 + ((1, False),), {11: 5, 0: None, 27: 5})

    def test_the_greatest_number_that_reaches_the_user(self):
        states = ((2, False), (1, False), (1, False))
        self.check((8, 16), states, {0: 2, 1: 1, 2: 2, 3: 1})
        self.check((4, 16), ((2, False), (1, False)), {0: 0, 3: 1, 15: 1, 1: 0})

    def test_blocked_releases(self):
        self.check((8, 16), ((2, False), (2, True)), {0: 0, 1: 0})
        self.check((8, 16), ((2, True), (1, False)), {0: None, 1: 1})
        self.check((16,), ((1, True),), {0: None})

    def test_a_stage_behind_the_last_ring(self):
        self.check((8, 16), ((7, False),), {0: 0, 1: 0})

    def test_users_above_999(self):
        self.check((1, 16), ((1, False),), {1008: 0, 1009: None})
        self.assertEqual(release_for(bounds=(16,), states=((1, False),), user=3), 0)


class RolloutTest(unittest.TestCase):

    def test_before_the_first_release(self):
        rollout = Rollout((8, 16))
        self.assertEqual(rollout.states, ())
        self.assertEqual(rollout.table, NOBODY)
        self.assertIsNone(rollout.release_of(3))

    def test_cutting(self):
        rollout = Rollout(bounds=(8, 16))
        self.assertEqual([rollout.cut(), rollout.cut(), rollout.cut()], [0, 1, 2])
        self.assertTrue(same(rollout.states, ((0, False), (0, False), (0, False))))
        self.assertEqual(rollout.table, NOBODY)

    def test_promoting(self):
        rollout = Rollout((8, 16))
        rollout.cut()
        self.assertIsNone(rollout.promote(0))
        self.assertTrue(same(rollout.states, ((1, False),)))
        self.assertEqual(rollout.table, (0, None) * 8)
        self.assertEqual([rollout.release_of(user) for user in (0, 1, 998, 999)], [0, None, 0, None])
        self.assertIsNone(rollout.promote(release=0))
        self.assertTrue(same(rollout.states, ((2, False),)))
        self.assertEqual(rollout.table, (0,) * 16)

    def test_promoting_a_release_that_is_in_all_rings(self):
        rollout = Rollout((16,))
        rollout.cut()
        for stage in (1, 2, 3):
            rollout.promote(0)
            self.assertTrue(same(rollout.states, ((stage, False),)))
            self.assertEqual(rollout.table, (0,) * 16)

    def test_blocking(self):
        rollout = Rollout((16,))
        rollout.cut()
        rollout.cut()
        rollout.promote(0)
        rollout.promote(1)
        self.assertEqual(rollout.table, (1,) * 16)
        self.assertIsNone(rollout.block(1))
        self.assertTrue(same(rollout.states, ((1, False), (1, True))))
        self.assertEqual(rollout.table, (0,) * 16)
        self.assertIsNone(rollout.block(release=1))
        self.assertTrue(same(rollout.states, ((1, False), (1, True))))
        rollout.block(0)
        self.assertEqual(rollout.table, NOBODY)

    def test_promoting_a_blocked_release(self):
        rollout = Rollout((8, 16))
        rollout.cut()
        rollout.block(0)
        rollout.promote(0)
        self.assertTrue(same(rollout.states, ((1, True),)))
        self.assertEqual(rollout.table, NOBODY)
        self.assertIsNone(rollout.release_of(user=0))

    def test_releases_that_do_not_exist(self):
        rollout = Rollout((8, 16))
        self.assertIsNone(rollout.promote(0))
        self.assertIsNone(rollout.block(0))
        self.assertEqual(rollout.states, ())
        rollout.cut()
        self.assertIsNone(rollout.promote(1))
        self.assertIsNone(rollout.block(5))
        self.assertTrue(same(rollout.states, ((0, False),)))
        self.assertEqual(rollout.table, NOBODY)

    def test_what_was_told_earlier_stays(self):
        rollout = Rollout((16,))
        rollout.cut()
        states, table = rollout.states, rollout.table
        rollout.promote(0)
        self.assertTrue(same(states, ((0, False),)))
        self.assertEqual(table, NOBODY)

    def test_against_a_slow_version(self):
        rng = random.Random(184)
        for _ in range(60):
            bounds = tuple(sorted(rng.sample(range(1, 16), rng.randrange(4)))) + (16,)
            rollout, states = Rollout(bounds), []
            for _ in range(25):
                release = rng.randrange(6)
                word = rng.choice(("cut", "promote", "promote", "promote", "block"))
                if word == "cut":
                    self.assertEqual(rollout.cut(), len(states))
                    states.append((0, False))
                elif word == "promote":
                    rollout.promote(release)
                    states[release:release + 1] = [(stage + 1, b) for stage, b in states[release:release + 1]]
                elif rng.randrange(3) == 0:
                    rollout.block(release)
                    states[release:release + 1] = [(stage, True) for stage, _ in states[release:release + 1]]
                self.assertTrue(same(rollout.states, tuple(states)))
                self.assertTrue(is_exact(rollout.states))
                table = tuple([slow_release_for(bounds, states, cohort) for cohort in range(16)])
                self.assertTrue(same(rollout.table, table))
                for user in (0, 7, 16, 999, 1021):
                    self.assertEqual(rollout.release_of(user), slow_release_for(bounds, states, user))
                    self.assertEqual(release_for(bounds, tuple(states), user), rollout.release_of(user))


if __name__ == "__main__":
    unittest.main()
