"""A pipeline without a cache, which also collects the characters that are read."""

from shiptrace.checks import read_by_check
from shiptrace.commands import execute_command
from shiptrace.merging import process_with_trees
from shiptrace.project import Project, served_text, state_of
from shiptrace.releases import make_release, read_for_release
from shiptrace.rollout import release_for
from shiptrace.trunk import tree_at


class PlainPipeline(Project):
    """A pipeline that does everything from scratch."""

    def __init__(self, config):
        Project.__init__(self, config)
        self.collected = {}

    def collect(self, characters):
        """Collect the origins of the characters."""
        for _, change, index in characters:
            self.collected[(change, index)] = True

    def merged(self, waiting):
        """Process the waiting changes; return the trunk and their outcomes."""
        trunk, outcomes, checked = process_with_trees(self.trunk, waiting, self.config.threshold)
        for tree in checked:
            self.collect(read_by_check(tree))
        return trunk, outcomes

    def made_release(self):
        """Make a release of the head tree."""
        self.collect(read_for_release(self.tree))
        return make_release(self.tree, len(self.trunk))

    def execute(self, command):
        """Execute the command and return its reply; raise CommandRefused."""
        return execute_command(self, command)

    def state(self):
        """Return (changes, queue, trunk, releases, impressions, flags)."""
        return state_of(self)

    @property
    def head(self):
        """The head tree."""
        return self.tree

    @property
    def journal(self):
        """The commands that were executed."""
        return self.commands

    def tree_of(self, revision):
        """Return the tree of the revision; raise NoSuchRevision."""
        return tree_at(self.trunk, revision)

    def release_of(self, user):
        """Return the number of the release that the user is on, or None."""
        return release_for(self.config.rings, self.delivery.states, user)

    def served(self, impression):
        """Return the text that was served in the impression; raise NoSuchImpression."""
        return served_text(self, impression)

    def characters_read(self):
        """Return the origins of the collected characters, in ascending order."""
        return tuple(sorted(self.collected))
