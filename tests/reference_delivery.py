"""Slow versions of rollout and delivery, written from the document's words."""

from reference_flags import slow_bucket


def is_exact(value):
    """Return True if the value consists of tuples, strings, integers, None, True and False."""
    if type(value) is tuple:
        return all([is_exact(part) for part in value])
    return value is None or type(value) in (str, int, bool)


def same(first, second):
    """Return True if the two are equal, and numbers are not True or False in only one of them."""
    return repr(first) == repr(second)


def slow_ring(bounds, user, salt):
    return [ring for ring, bound in enumerate(bounds) if bound > slow_bucket(user, salt)][0]


def slow_release_for(bounds, states, user):
    reaching = [None]
    for release, (stage, blocked) in enumerate(states):
        rings = list(range(stage))
        if blocked is False and slow_ring(bounds, user, release) in rings:
            reaching.append(release)
    return reaching[-1]


class Refused(Exception):

    def __init__(self, *reason):
        self.reason = reason


class SlowDelivery:
    """The actions of point 186, with all that is told found anew each time."""

    def __init__(self, bounds, min_good_users=0, error_budget=1):
        self.bounds = bounds
        self.min_good_users = min_good_users
        self.error_budget = error_budget
        self.releases = []
        self.shown = []

    def states(self):
        return tuple([tuple(state) for state in self.releases])

    def impressions(self):
        return tuple([tuple(impression) for impression in self.shown])

    def table(self):
        return tuple([slow_release_for(self.bounds, self.states(), cohort) for cohort in range(16)])

    def release_of(self, user):
        return slow_release_for(self.bounds, self.states(), user)

    def good_users(self, release, ring):
        found = []
        for user, _, on, at, _, report in self.shown:
            if on == release and at == ring and report is True and user not in found:
                found.append(user)
        return len(found)

    def bad_reports(self, release):
        return [(impression[2], impression[5]) for impression in self.shown].count((release, False))

    def cut(self):
        self.releases.append([0, False])
        return len(self.releases) - 1

    def check_promotion(self, release):
        if release not in range(len(self.releases)):
            raise Refused("no such release")
        stage, blocked = self.releases[release]
        if blocked:
            raise Refused("release is blocked")
        if stage == len(self.bounds):
            raise Refused("release is in all rings")
        if stage >= 1 and self.good_users(release, stage - 1) < self.min_good_users:
            raise Refused("too few good reports")

    def promote(self, release):
        self.check_promotion(release)
        self.releases[release][0] += 1
        return self.releases[release][0]

    def promotable(self):
        found = []
        for release in range(len(self.releases)):
            try:
                self.check_promotion(release)
                found.append(release)
            except Refused:
                pass
        return tuple(found)

    def block(self, release):
        if release not in range(len(self.releases)):
            raise Refused("no such release")
        if self.releases[release][1]:
            raise Refused("release is blocked")
        self.releases[release][1] = True
        return release

    def serve(self, user, page, numbers):
        release = self.release_of(user)
        if release is None:
            raise Refused("no release for this user")
        self.shown.append([user, page, release, slow_ring(self.bounds, user, release), numbers, None])
        return len(self.shown) - 1

    def report(self, impression, good):
        if impression not in range(len(self.shown)):
            raise Refused("no such impression")
        if self.shown[impression][5] is not None:
            raise Refused("already reported")
        release = self.shown[impression][2]
        if self.releases[release][1]:
            raise Refused("release is blocked")
        self.shown[impression][5] = good
        if good is False and self.bad_reports(release) >= self.error_budget:
            self.releases[release][1] = True
        return impression
