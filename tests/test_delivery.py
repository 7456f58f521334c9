"""Delivery: points 185 and 186."""

import random
import unittest

from reference_delivery import Refused, SlowDelivery, is_exact, same
from shiptrace.delivery import Delivery
from shiptrace.errors import CommandRefused

NO_RELEASE, BLOCKED = ("no such release",), ("release is blocked",)
ALL_RINGS, TOO_FEW = ("release is in all rings",), ("too few good reports",)
NOBODY, NO_IMPRESSION, REPORTED = ("no release for this user",), ("no such impression",), ("already reported",)


def all_of(delivery):
    return delivery.states, delivery.table, delivery.impressions, delivery.promotable()


class DeliveryTest(unittest.TestCase):

    def refused(self, delivery, reason, word, *arguments):
        """Check that an action is refused for the reason, and that nothing changes."""
        before = all_of(delivery)
        with self.assertRaises(CommandRefused) as caught:
            getattr(delivery, word)(*arguments)
        self.assertEqual(caught.exception.reason, reason)
        self.assertTrue(same(all_of(delivery), before))

    def released(self, bounds, stages, **numbers):
        """Return a delivery with releases of these stages."""
        delivery = Delivery(bounds, **numbers)
        for stage in stages:
            release = delivery.cut()
            for _ in range(stage):
                delivery.promote(release)
        return delivery


class CutTest(DeliveryTest):

    def test_a_new_delivery(self):
        delivery = Delivery((8, 16))
        self.assertTrue(same(all_of(delivery), ((), (None,) * 16, (), ())))
        self.assertIsNone(delivery.release_of(0))
        self.assertEqual(Delivery(bounds=(16,), min_good_users=2, error_budget=3).impressions, ())

    def test_cut(self):
        delivery = Delivery((8, 16))
        self.assertTrue(same((delivery.cut(), delivery.cut()), (0, 1)))
        self.assertTrue(same(delivery.states, ((0, False), (0, False))))
        self.assertEqual(delivery.table, (None,) * 16)
        self.assertEqual(delivery.promotable(), (0, 1))


class PromoteTest(DeliveryTest):

    def test_the_stage_is_returned(self):
        delivery = self.released((4, 8, 16), (0,))
        self.assertTrue(same([delivery.promote(0) for _ in range(3)], [1, 2, 3]))
        self.assertTrue(same(delivery.states, ((3, False),)))
        self.assertEqual(delivery.table, (0,) * 16)

    def test_no_such_release(self):
        delivery = Delivery((16,))
        self.refused(delivery, NO_RELEASE, "promote", 0)
        delivery.cut()
        self.refused(delivery, NO_RELEASE, "promote", 1)

    def test_a_blocked_release(self):
        delivery = self.released((16,), (0, 1))
        delivery.block(0)
        delivery.block(1)
        self.refused(delivery, BLOCKED, "promote", 0)
        # It is in all rings as well, but that comes later in the table.
        self.refused(delivery, BLOCKED, "promote", 1)

    def test_a_release_in_all_rings(self):
        delivery = self.released((16,), (1,))
        self.refused(delivery, ALL_RINGS, "promote", 0)

    def test_a_release_in_all_rings_without_good_reports(self):
        delivery = self.released((16,), (1,), min_good_users=1)
        self.refused(delivery, ALL_RINGS, "promote", 0)

    def test_too_few_good_reports(self):
        delivery = self.released((8, 16), (1,), min_good_users=2)
        self.refused(delivery, TOO_FEW, "promote", 0)
        self.assertEqual(delivery.promotable(), ())
        for user in (0, 0, 2):
            delivery.serve(user, "p", ())
        delivery.report(0, True)
        self.refused(delivery, TOO_FEW, "promote", 0)
        # The same user a second time counts once.
        delivery.report(1, True)
        self.assertEqual(delivery.good_users(0, 0), 1)
        self.refused(delivery, TOO_FEW, "promote", 0)
        delivery.report(2, True)
        self.assertEqual(delivery.good_users(0, 0), 2)
        self.assertEqual(delivery.promotable(), (0,))
        self.assertTrue(same(delivery.promote(0), 2))

    def test_a_blocked_release_with_too_few_good_reports(self):
        delivery = self.released((8, 16), (1,), min_good_users=2)
        delivery.block(0)
        self.refused(delivery, BLOCKED, "promote", 0)

    def test_good_reports_in_the_last_ring_count(self):
        delivery = self.released((4, 8, 16), (1,), min_good_users=1)
        delivery.report(delivery.serve(0, "p", ()), True)
        self.assertEqual(delivery.promote(0), 2)
        self.refused(delivery, TOO_FEW, "promote", 0)
        # User 8 has the bucket 1 and is in ring 0, user 2 has the bucket 4 and is in ring 1.
        delivery.report(delivery.serve(8, "p", ()), True)
        self.refused(delivery, TOO_FEW, "promote", 0)
        delivery.report(delivery.serve(2, "p", ()), True)
        self.assertEqual(delivery.good_users(0, 0), 2)
        self.assertEqual(delivery.good_users(0, 1), 1)
        self.assertEqual(delivery.promote(0), 3)

    def test_bad_reports_are_no_good_ones(self):
        delivery = self.released((8, 16), (1,), min_good_users=1, error_budget=9)
        delivery.report(delivery.serve(0, "p", ()), False)
        delivery.serve(2, "p", ())
        self.refused(delivery, TOO_FEW, "promote", 0)

    def test_promotable_releases_in_ascending_order(self):
        delivery = self.released((8, 16), (0, 2, 1, 1, 0))
        delivery.block(3)
        self.assertTrue(same(delivery.promotable(), (0, 2, 4)))


class BlockTest(DeliveryTest):

    def test_the_number_is_returned(self):
        delivery = self.released((16,), (1, 1))
        self.assertTrue(same(delivery.block(1), 1))
        self.assertTrue(same(delivery.states, ((1, False), (1, True))))
        self.assertEqual(delivery.table, (0,) * 16)

    def test_reasons(self):
        delivery = self.released((16,), (1,))
        self.refused(delivery, NO_RELEASE, "block", 1)
        delivery.block(0)
        self.refused(delivery, BLOCKED, "block", 0)
        self.refused(delivery, NO_RELEASE, "block", 1)


class ServeTest(DeliveryTest):

    def test_impressions(self):
        delivery = self.released((8, 16), (2, 1))
        self.assertTrue(same(delivery.serve(0, "p", (0, 2)), 0))
        self.assertTrue(same(delivery.serve(1, "any/page", ()), 1))
        self.assertTrue(same(delivery.serve(user=17, page="p", numbers=(5,)), 2))
        impressions = (
            (0, "p", 0, 0, (0, 2), None),
            (1, "any/page", 1, 0, (), None),
            (17, "p", 1, 0, (5,), None),
        )
        self.assertTrue(same(delivery.impressions, impressions))

    def test_the_ring_under_the_number_of_the_release(self):
        delivery = self.released((4, 8, 16), (3,))
        for user in (0, 1, 2, 3):
            delivery.serve(user, "p", ())
        self.assertEqual([impression[3] for impression in delivery.impressions], [0, 2, 1, 2])

    def test_no_release_for_the_user(self):
        self.refused(Delivery((16,)), NOBODY, "serve", 0, "p", ())
        delivery = self.released((8, 16), (1,))
        self.refused(delivery, NOBODY, "serve", 1, "p", ())
        delivery.block(0)
        self.refused(delivery, NOBODY, "serve", 0, "p", ())


class ReportTest(DeliveryTest):

    def test_good_and_bad_reports(self):
        delivery = self.released((16,), (1,), error_budget=2)
        for user in (4, 5, 6):
            delivery.serve(user, "p", (0,))
        self.assertTrue(same(delivery.report(1, True), 1))
        self.assertTrue(same(delivery.report(impression=2, good=False), 2))
        reports = [impression[5] for impression in delivery.impressions]
        self.assertTrue(same(reports, [None, True, False]))
        self.assertTrue(same(delivery.impressions[1][:5], (5, "p", 0, 0, (0,))))
        self.assertTrue(same((delivery.bad_reports(0), delivery.good_users(0, 0)), (1, 1)))

    def test_the_budget(self):
        delivery = self.released((16,), (1, 1), error_budget=2)
        for user in range(3):
            delivery.serve(user, "p", ())
        delivery.report(0, False)
        self.assertTrue(same(delivery.states, ((1, False), (1, False))))
        self.assertTrue(same(delivery.report(2, False), 2))
        self.assertTrue(same(delivery.states, ((1, False), (1, True))))
        self.assertEqual(delivery.bad_reports(1), 2)
        self.assertEqual(delivery.release_of(0), 0)

    def test_a_budget_of_one(self):
        delivery = self.released((16,), (1,))
        delivery.serve(0, "p", ())
        delivery.report(0, False)
        self.assertTrue(same(delivery.states, ((1, True),)))

    def test_good_reports_do_not_block(self):
        delivery = self.released((16,), (1,))
        delivery.serve(0, "p", ())
        delivery.report(0, True)
        self.assertTrue(same(delivery.states, ((1, False),)))

    def test_bad_reports_of_other_releases_do_not_count(self):
        delivery = self.released((16,), (1,), error_budget=2)
        delivery.report(delivery.serve(0, "p", ()), False)
        delivery.promote(delivery.cut())
        delivery.report(delivery.serve(0, "p", ()), False)
        self.assertTrue(same(delivery.states, ((1, False), (1, False))))
        self.assertEqual([delivery.bad_reports(release) for release in (0, 1)], [1, 1])

    def test_no_such_impression(self):
        delivery = self.released((16,), (1,))
        self.refused(delivery, NO_IMPRESSION, "report", 0, True)
        delivery.serve(0, "p", ())
        self.refused(delivery, NO_IMPRESSION, "report", 1, False)

    def test_already_reported(self):
        delivery = self.released((16,), (1,), error_budget=2)
        delivery.serve(0, "p", ())
        delivery.serve(0, "p", ())
        delivery.report(0, True)
        delivery.report(1, False)
        for good in (True, False):
            self.refused(delivery, REPORTED, "report", 0, good)
            self.refused(delivery, REPORTED, "report", 1, good)

    def test_an_impression_of_a_blocked_release(self):
        delivery = self.released((16,), (1,))
        for _ in range(3):
            delivery.serve(0, "p", ())
        delivery.report(0, True)
        delivery.block(0)
        self.refused(delivery, BLOCKED, "report", 1, True)
        self.refused(delivery, BLOCKED, "report", 2, False)
        # Both reasons apply, and this one comes first.
        self.refused(delivery, REPORTED, "report", 0, True)

    def test_an_older_release_that_is_not_blocked(self):
        delivery = self.released((16,), (1,))
        delivery.serve(0, "p", ())
        delivery.promote(delivery.cut())
        delivery.block(1)
        delivery.report(0, True)
        self.assertEqual(delivery.good_users(0, 0), 1)


class CountsTest(DeliveryTest):

    def test_good_users_by_release_and_ring(self):
        delivery = self.released((8, 16), (2,))
        for user in (0, 1, 1, 3, 2, 0):
            delivery.report(delivery.serve(user, "p", ()), True)
        delivery.promote(delivery.cut())
        delivery.report(delivery.serve(1, "p", ()), True)
        counts = [delivery.good_users(release, ring) for release in (0, 1) for ring in (0, 1, 2)]
        self.assertTrue(same(counts, [2, 2, 0, 1, 0, 0]))
        self.assertTrue(same(delivery.good_users(release=0, ring=1), 2))

    def test_what_was_told_earlier_stays(self):
        delivery = self.released((16,), (1,))
        delivery.serve(0, "p", ())
        told = delivery.impressions
        delivery.report(0, True)
        self.assertTrue(same(told, ((0, "p", 0, 0, (), None),)))


class RandomDeliveryTest(DeliveryTest):

    def action(self, rng):
        word = rng.choice(("cut", "promote", "promote", "block", "serve", "serve", "serve", "report", "report"))
        if word == "cut":
            return (word,)
        if word == "block" and rng.randrange(3):
            return ("promote", rng.randrange(4))
        if word in ("promote", "block"):
            return (word, rng.randrange(5))
        if word == "serve":
            return (word, rng.choice((0, 1, 2, 3, 16, 998)), rng.choice(("p", "q")), (rng.randrange(3),))
        return (word, rng.randrange(14), rng.randrange(4) > 0)

    def test_against_a_slow_version(self):
        rng = random.Random(186)
        refused = {}
        for _ in range(150):
            bounds = tuple(sorted(rng.sample(range(1, 16), rng.randrange(4)))) + (16,)
            numbers = {"min_good_users": rng.randrange(3), "error_budget": rng.randrange(1, 4)}
            delivery, slow = Delivery(bounds, **numbers), SlowDelivery(bounds, **numbers)
            for _ in range(40):
                word, *arguments = self.action(rng)
                try:
                    expected = getattr(slow, word)(*arguments)
                    self.assertTrue(same(getattr(delivery, word)(*arguments), expected))
                except Refused as refusal:
                    refused[(word, refusal.reason)] = True
                    self.refused(delivery, refusal.reason, word, *arguments)
                told = (slow.states(), slow.table(), slow.impressions(), slow.promotable())
                self.assertTrue(same(all_of(delivery), told))
                self.assertTrue(is_exact(all_of(delivery)))
                for release in range(len(slow.releases)):
                    self.assertTrue(same(delivery.bad_reports(release), slow.bad_reports(release)))
                    for ring in range(len(bounds)):
                        self.assertTrue(same(delivery.good_users(release, ring), slow.good_users(release, ring)))
        self.assertEqual(len(refused), 10)


if __name__ == "__main__":
    unittest.main()
