"""Rollout: which users are on which release.

The state of a release is a pair `(stage, blocked)`.
"""

from shiptrace.rings import PLACES, cohort_of, ring_of


def release_for(bounds, states, user):
    """Return the greatest number of a release that reaches the user, or None."""
    for release in range(len(states) - 1, -1, -1):
        stage, blocked = states[release]
        if not blocked and ring_of(bounds, user, release) < stage:
            return release
    return None


class Rollout:
    """Releases with their states."""

    def __init__(self, bounds):
        self.bounds = bounds
        self.known = ()
        self.places = (None,) * PLACES

    def cut(self):
        """Cut a release and return its number."""
        self.known = self.known + ((0, False),)
        return len(self.known) - 1

    def change(self, release, state):
        """Give the release another state."""
        self.known = self.known[:release] + (state,) + self.known[release + 1:]
        # Users of one cohort have the same bucket under every salt, so one of them is enough.
        self.places = tuple([release_for(self.bounds, self.known, cohort) for cohort in range(PLACES)])

    def promote(self, release):
        """Increase the stage of the release, if there is such a release."""
        if release < len(self.known):
            stage, blocked = self.known[release]
            self.change(release, (stage + 1, blocked))

    def block(self, release):
        """Block the release, if there is such a release."""
        if release < len(self.known):
            stage, _ = self.known[release]
            self.change(release, (stage, True))

    def release_of(self, user):
        """Return the number of the release that the user is on, or None."""
        return self.places[cohort_of(user)]

    @property
    def states(self):
        """The states of the releases, in the order of their numbers."""
        return self.known

    @property
    def table(self):
        """The numbers of the releases that the users of the cohorts are on."""
        return self.places
