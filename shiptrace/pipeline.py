"""The pipeline, from proposals to what users are shown, and its configuration."""

from shiptrace.cache import Cache
from shiptrace.commands import execute_command
from shiptrace.errors import InvalidConfig, NoSuchCharacter
from shiptrace.merging import process_in_batches
from shiptrace.project import Project, impression_of, served_parts, served_text, state_of
from shiptrace.provenance import influences_of, path_of
from shiptrace.rebuilding import rebuild
from shiptrace.releases import make_release_with
from shiptrace.trees import EMPTY, entry_of
from shiptrace.trunk import tree_at

# The names of the places of a record.
RECORD_PLACES = (
    "sign", "change", "index", "author", "approvals", "commit", "release", "page", "part", "path", "influences"
)


def _are_members(members):
    return 1 <= len(members) <= 8 and len(set(members)) == len(members)


def _are_bounds(rings):
    if not 1 <= len(rings) <= 6 or list(rings) != sorted(set(rings)):
        return False
    return rings[0] >= 1 and rings[-1] == 16


def _first_invalid(config):
    """Return the name of the first field that is invalid, or None."""
    fields = (
        ("members", _are_members(config.members)),
        ("threshold", 1 <= config.threshold <= 8),
        ("rings", _are_bounds(config.rings)),
        ("min_good_users", config.min_good_users >= 0),
        ("error_budget", config.error_budget >= 1),
        ("batch_size", config.batch_size >= 1),
        ("cache_size", config.cache_size >= 0),
    )
    for name, valid in fields:
        if not valid:
            return name
    return None


class Config:
    """A configuration of a pipeline."""

    def __init__(self, members, *, threshold=8, rings=(16,), min_good_users=0, error_budget=1, batch_size=1,
                 cache_size=8):
        self.members = members
        self.threshold = threshold
        self.rings = rings
        self.min_good_users = min_good_users
        self.error_budget = error_budget
        self.batch_size = batch_size
        self.cache_size = cache_size
        field = _first_invalid(self)
        if field is not None:
            raise InvalidConfig(field)


def _place_of(parts, index):
    """Return (part, number, character) of the character of what was served in these parts."""
    before = 0
    for part, text in parts:
        if index - before < len(text):
            return part, index - before, text[index - before]
        before += len(text)
    raise NoSuchCharacter("no character of what was served has this number")


class Pipeline(Project):
    """A pipeline with a cache."""

    def __init__(self, config):
        Project.__init__(self, config)
        self.cache = Cache(config.cache_size)
        self.runs = 0
        self.output_tree = EMPTY
        self.output_runs = ()

    @classmethod
    def replayed(cls, config, journal):
        """Return a new pipeline on which the commands of the journal have been executed."""
        pipeline = cls(config)
        for command in journal:
            pipeline.execute(command)
        return pipeline

    def merged(self, waiting):
        """Process the waiting changes; return the trunk and their outcomes."""
        threshold, size = self.config.threshold, self.config.batch_size
        trunk, outcomes, executed = process_in_batches(self.trunk, waiting, threshold, size, self.cache)
        self.runs += len(executed)
        return trunk, outcomes

    def made_release(self):
        """Make a release of the head tree."""
        release, executed = make_release_with(self.cache, self.tree, len(self.trunk))
        self.runs += len(executed)
        return release

    def execute(self, command):
        """Execute the command and return its reply; raise CommandRefused."""
        return execute_command(self, command)

    def state(self):
        """Return (changes, queue, trunk, releases, impressions, flags)."""
        return state_of(self)

    @property
    def head(self):
        """The head tree."""
        return self.tree

    @property
    def journal(self):
        """The commands that were executed."""
        return self.commands

    def tree_of(self, revision):
        """Return the tree of the revision; raise NoSuchRevision."""
        return tree_at(self.trunk, revision)

    def release_of(self, user):
        """Return the number of the release that the user is on, or None."""
        return self.delivery.release_of(user)

    def preview(self, count):
        """Return what the command ("merge", count) would reply now."""
        taken = self.queue[:count]
        threshold, size = self.config.threshold, self.config.batch_size
        _, outcomes, _ = process_in_batches(self.trunk, self.waiting(taken), threshold, size, self.cache.copy())
        return tuple(zip(taken, outcomes))

    def served(self, impression):
        """Return the text that was served in the impression; raise NoSuchImpression."""
        return served_text(self, impression)

    def record(self, impression, index):
        """Return the record of the character that was served in the impression."""
        _, page, release, _, _, _ = impression_of(self, impression)
        part, number, (sign, change, position) = _place_of(served_parts(self, impression), index)
        author, _, _, approvals, (_, commit) = self.changes[change]
        revision, _ = self.releases[release]
        tree = self.tree_of(revision)
        target = entry_of(tree[3], page)[part][1]
        path = path_of(tree, target, number)
        influences = influences_of(tree, target)
        return sign, change, position, author, approvals, commit, release, page, part, path, influences

    def check_record(self, impression, index, record):
        """Return the name of the first place of the record that is wrong, or None."""
        for name, told, known in zip(RECORD_PLACES, record, self.record(impression, index)):
            if told != known:
                return name
        return None

    def outputs(self):
        """Return the results of all targets of the head tree, rebuilt from the last time."""
        results, executed = rebuild(self.output_tree, self.tree)
        self.output_tree = self.tree
        self.output_runs = executed
        return results

    @property
    def rebuilt(self):
        """The names of the targets that the last call of outputs executed."""
        return self.output_runs

    @property
    def cached(self):
        """The number of entries of the cache."""
        return len(self.cache)

    @property
    def executed(self):
        """How many times a rule or a test was executed by commands."""
        return self.runs
