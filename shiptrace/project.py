"""What each pipeline keeps, whether it has a cache or not."""

from shiptrace.delivery import Delivery
from shiptrace.errors import NoSuchImpression
from shiptrace.trees import EMPTY, entry_of
from shiptrace.trunk import tree_at


class Project:
    """The state of a pipeline, and its journal.

    A change is a tuple `(author, base, edits, approvals, outcome)`, a release a pair
    `(revision, pages)`. The classes of pipelines, which derive from this one, tell how
    waiting changes are merged (`merged`), how a release is made of the head tree
    (`made_release`), and which release a user is on (`release_of`).
    """

    def __init__(self, config):
        self.config = config
        self.changes = ()
        self.queue = ()
        self.trunk = ()
        self.tree = EMPTY
        self.releases = ()
        self.delivery = Delivery(
            config.rings, min_good_users=config.min_good_users, error_budget=config.error_budget
        )
        self.flags = ()
        self.commands = ()

    def add_change(self, author, base, edits):
        """Add a change without approvals and return its number."""
        self.changes = self.changes + ((author, base, edits, (), None),)
        return len(self.changes) - 1

    def replace_change(self, number, approvals, outcome):
        """Give the change other approvals and another outcome."""
        author, base, edits, _, _ = self.changes[number]
        replaced = (author, base, edits, approvals, outcome)
        self.changes = self.changes[:number] + (replaced,) + self.changes[number + 1:]

    def waiting(self, numbers):
        """Return the changes with these numbers as waiting changes."""
        return tuple([(number,) + self.changes[number][:4] for number in numbers])

    def land(self, trunk):
        """Replace the trunk by one with further commits."""
        self.trunk = trunk
        self.tree = tree_at(trunk, len(trunk))


def state_of(project):
    """Return the state (changes, queue, trunk, releases, impressions, flags)."""
    states = project.delivery.states
    releases = tuple([release + state for release, state in zip(project.releases, states)])
    impressions = project.delivery.impressions
    return project.changes, project.queue, project.trunk, releases, impressions, project.flags


def impression_of(project, number):
    """Return the impression with this number; raise NoSuchImpression."""
    impressions = project.delivery.impressions
    if number >= len(impressions):
        raise NoSuchImpression("there is no impression with this number")
    return impressions[number]


def served_parts(project, number):
    """Return the list of pairs of the number of a part that was served in the impression, and its text."""
    _, page, release, _, numbers, _ = impression_of(project, number)
    _, pages = project.releases[release]
    parts = entry_of(pages, page)
    return [(part, parts[part][1]) for part in numbers]


def served_text(project, number):
    """Return the text that was served in the impression."""
    return tuple([character for _, text in served_parts(project, number) for character in text])
