"""Rings: points 164 and 165."""

import random
import unittest

from reference_flags import slow_bucket
from shiptrace.rings import bucket_of, next_salt, ring_of, users_below
from support import is_plain

BUCKETS = (0, 8, 4, 12, 2, 10, 6, 14, 1, 9, 5, 13, 3, 11, 7, 15)
HUGE = 10 ** 21


def slow_ring(bounds, user, salt):
    for ring, bound in enumerate(bounds):
        if bound > slow_bucket(user, salt):
            return ring


class BucketTest(unittest.TestCase):

    def test_all_buckets(self):
        self.assertEqual(tuple([bucket_of(user, 0) for user in range(16)]), BUCKETS)
        self.assertEqual(tuple([bucket_of(0, salt) for salt in range(16)]), BUCKETS)
        self.assertEqual([slow_bucket(user, 0) for user in range(16)], list(BUCKETS))

    def test_the_examples_of_the_document(self):
        self.assertEqual(bucket_of(1, 0), 8)
        self.assertEqual(bucket_of(4, 1), 10)

    def test_user_and_salt_are_added(self):
        for user in (0, 5, 15, 16, 31, 100, 999):
            for salt in (0, 1, 11, 16, 250):
                self.assertEqual(bucket_of(user, salt), BUCKETS[(user + salt) % 16])

    def test_users_above_999_and_great_salts(self):
        self.assertEqual(bucket_of(1001, 0), BUCKETS[9])
        self.assertEqual(bucket_of(123456, 3), slow_bucket(123456, 3))
        self.assertEqual(bucket_of(3, HUGE), slow_bucket(3, HUGE))
        self.assertEqual(bucket_of(1, 16 * HUGE), 8)
        self.assertEqual(bucket_of(0, 16 * HUGE + 15), 15)

    def test_keywords(self):
        self.assertEqual(bucket_of(user=1, salt=0), 8)
        self.assertIs(type(bucket_of(0, 0)), int)


class RingTest(unittest.TestCase):

    def test_one_ring(self):
        self.assertEqual([ring_of((16,), user, 3) for user in range(20)], [0] * 20)

    def test_a_first_bound_of_1(self):
        rings = [ring_of((1, 16), user, 0) for user in range(16)]
        self.assertEqual(rings, [0] + [1] * 15)
        self.assertEqual(ring_of((1, 16), 13, 3), 0)

    def test_bounds_are_not_below(self):
        rings = {bucket: ring_of((4, 9, 12, 16), BUCKETS.index(bucket), 0) for bucket in range(16)}
        self.assertEqual(list(rings.values()), [0] * 4 + [1] * 5 + [2] * 3 + [3] * 4)

    def test_six_rings(self):
        rings = [ring_of((1, 2, 3, 4, 15, 16), BUCKETS.index(bucket), 0) for bucket in range(16)]
        self.assertEqual(rings, [0, 1, 2, 3] + [4] * 11 + [5])

    def test_great_users_and_salts(self):
        self.assertEqual(ring_of((8, 16), 1001, HUGE), slow_ring((8, 16), 1001, HUGE))
        self.assertEqual(ring_of(bounds=(8, 16), user=1, salt=0), 1)
        self.assertIs(type(ring_of((16,), 0, 0)), int)


class UsersBelowTest(unittest.TestCase):

    def test_limits(self):
        self.assertEqual(users_below(0, 0, 0, 64), ())
        self.assertEqual(users_below(5, 16, 3, 4), (3, 4, 5, 6))
        self.assertEqual(users_below(0, 1, 0, 64), (0, 16, 32, 48))
        self.assertEqual(users_below(0, 15, 0, 17), tuple(range(15)) + (16,))

    def test_counts(self):
        self.assertEqual(users_below(0, 16, 7, 0), ())
        self.assertEqual(users_below(0, 16, 7, 1), (7,))
        self.assertEqual(users_below(1, 16, 7, 64), tuple(range(7, 71)))

    def test_the_salt(self):
        self.assertEqual(users_below(0, 2, 0, 16), (0, 8))
        self.assertEqual(users_below(3, 2, 0, 16), (5, 13))
        self.assertEqual(users_below(16 * HUGE + 3, 2, 1000, 16), (1005, 1013))

    def test_users_above_999(self):
        self.assertEqual(users_below(0, 8, 998, 5), (998, 1000, 1002))
        self.assertEqual(users_below(salt=0, limit=8, first=0, count=4), (0, 2))
        self.assertTrue(is_plain(users_below(0, 8, 0, 4)))


class NextSaltTest(unittest.TestCase):

    def test_at_once(self):
        self.assertEqual(next_salt((4, 16), 0, 0, 0), 0)
        self.assertEqual(next_salt((4, 16), 7, HUGE, 1), HUGE)
        self.assertEqual(next_salt((16,), 7, 5, 0), 5)
        self.assertEqual(next_salt((4, 8, 16), 2, 0, 1), 0)

    def test_a_greatest_ring_behind_the_last_one(self):
        for most in (1, 2, 100):
            self.assertEqual(next_salt((1, 16), 3, 8, most), 8)

    def test_after_many_salts(self):
        self.assertEqual(next_salt((1, 16), 1, 0, 0), 15)
        self.assertEqual(next_salt((1, 16), 0, 1, 0), 16)
        self.assertEqual(next_salt((1, 16), 1, 16 * HUGE, 0), 16 * HUGE + 15)
        self.assertEqual(next_salt((1, 2, 16), 1, 0, 1), 7)

    def test_users_above_999(self):
        self.assertEqual(next_salt((1, 16), 1001, 0, 0), 7)
        self.assertEqual(next_salt(bounds=(1, 16), user=1001, salt=0, most=0), 7)

    def test_against_trying(self):
        rng = random.Random(165)
        for _ in range(600):
            bounds = tuple(sorted(rng.sample(range(1, 16), rng.randrange(6)))) + (16,)
            user, salt, most = rng.randrange(1100), rng.randrange(200), rng.randrange(7)
            self.assertEqual(ring_of(bounds, user, salt), slow_ring(bounds, user, salt))
            found = [other for other in range(salt, salt + 40) if slow_ring(bounds, user, other) <= most]
            self.assertEqual(next_salt(bounds, user, salt, most), found[0])
            limit, count = rng.randrange(17), rng.randrange(65)
            users = [other for other in range(user, user + count) if slow_bucket(other, salt) < limit]
            self.assertEqual(users_below(salt, limit, user, count), tuple(users))


if __name__ == "__main__":
    unittest.main()
