"""Delivery: releases are promoted, served, reported on and blocked.

An impression is a tuple `(user, page, release, ring, numbers, report)`.
"""

from shiptrace.errors import CommandRefused
from shiptrace.rings import ring_of
from shiptrace.rollout import Rollout


class Delivery:
    """Releases with states, and impressions of them."""

    def __init__(self, bounds, *, min_good_users=0, error_budget=1):
        self.bounds = bounds
        self.min_good_users = min_good_users
        self.error_budget = error_budget
        self.rollout = Rollout(bounds)
        self.log = ()

    def cut(self):
        """Cut a release and return its number."""
        return self.rollout.cut()

    def refusal_of(self, release):
        """Return the reason for which neither promoting nor blocking the release is possible, or None."""
        if release >= len(self.states):
            return ("no such release",)
        return ("release is blocked",) if self.is_blocked(release) else None

    def refusal_to_promote(self, release):
        """Return the reason for which promoting the release is refused, or None."""
        reason = self.refusal_of(release)
        if reason is not None:
            return reason
        stage, _ = self.states[release]
        if stage == len(self.bounds):
            return ("release is in all rings",)
        if stage > 0 and self.good_users(release, stage - 1) < self.min_good_users:
            return ("too few good reports",)
        return None

    def promote(self, release):
        """Promote the release and return its stage now; raise CommandRefused."""
        reason = self.refusal_to_promote(release)
        if reason is not None:
            raise CommandRefused(reason)
        self.rollout.promote(release)
        return self.states[release][0]

    def block(self, release):
        """Block the release and return its number; raise CommandRefused."""
        reason = self.refusal_of(release)
        if reason is not None:
            raise CommandRefused(reason)
        self.rollout.block(release)
        return release

    def serve(self, user, page, numbers):
        """Serve these parts of the page to the user; return the number of the impression."""
        release = self.release_of(user)
        if release is None:
            raise CommandRefused(("no release for this user",))
        ring = ring_of(self.bounds, user, release)
        self.log = self.log + ((user, page, release, ring, numbers, None),)
        return len(self.log) - 1

    def report(self, impression, good):
        """Record a good or a bad report on the impression, and return its number."""
        if impression >= len(self.log):
            raise CommandRefused(("no such impression",))
        user, page, release, ring, numbers, known = self.log[impression]
        if known is not None:
            raise CommandRefused(("already reported",))
        if self.is_blocked(release):
            raise CommandRefused(("release is blocked",))
        reported = (user, page, release, ring, numbers, good)
        self.log = self.log[:impression] + (reported,) + self.log[impression + 1:]
        if not good and self.bad_reports(release) >= self.error_budget:
            self.rollout.block(release)
        return impression

    def release_of(self, user):
        """Return the number of the release that the user is on, or None."""
        return self.rollout.release_of(user)

    def is_blocked(self, release):
        """Return True if the release is blocked."""
        return self.states[release][1]

    def good_users(self, release, ring):
        """Return the number of the different users in the ring with good reports on the release."""
        wanted = (release, ring, True)
        return len(set([user for user, _, on, at, _, report in self.log if (on, at, report) == wanted]))

    def bad_reports(self, release):
        """Return the number of the bad reports of the release."""
        return len([True for _, _, on, _, _, report in self.log if on == release and report is False])

    def promotable(self):
        """Return the numbers of the releases whose promotion would not be refused now."""
        releases = range(len(self.states))
        return tuple([release for release in releases if self.refusal_to_promote(release) is None])

    @property
    def states(self):
        """The states of the releases, in the order of their numbers."""
        return self.rollout.states

    @property
    def table(self):
        """The numbers of the releases that the users of the cohorts are on."""
        return self.rollout.table

    @property
    def impressions(self):
        """The impressions, in the order of their numbers."""
        return self.log
