"""The errors that the program raises."""


class ShiptraceError(ValueError):
    """The base class of all errors of the program."""


class InvalidHunks(ShiptraceError):
    """The hunks do not fit the length of the text."""


class NoSuchCharacter(ShiptraceError):
    """There is no character with this number."""


class NoSuchRevision(ShiptraceError):
    """The trunk has fewer commits than the number of the revision."""


class NoSuchCommit(ShiptraceError):
    """The trunk has no commit with this number."""


class NoSuchImpression(ShiptraceError):
    """There is no impression with this number."""


class DuplicateKey(ShiptraceError):
    """A key occurs twice among the edits of a change."""

    def __init__(self, key):
        self.key = key


class CannotApply(ShiptraceError):
    """The edit with this key does not apply to the tree."""

    def __init__(self, key):
        self.key = key


class EditsConflict(ShiptraceError):
    """The edit with this key conflicts with another one."""

    def __init__(self, key):
        self.key = key


class ConflictsWith(ShiptraceError):
    """Edits conflict with the commit with this number."""

    def __init__(self, commit):
        self.commit = commit


class BuildFailed(ShiptraceError):
    """A target evaluates to this error of a build."""

    def __init__(self, error):
        self.error = error


class DependencyCycle(ShiptraceError):
    """A tree has a dependency cycle with this cycle target."""

    def __init__(self, target):
        self.target = target


class NoSuchTarget(ShiptraceError):
    """The target with this name has no rule."""

    def __init__(self, name):
        self.name = name


class NoSuchTest(ShiptraceError):
    """The tree has no test with this name."""

    def __init__(self, name):
        self.name = name


class FlagCycle(ShiptraceError):
    """Flags depend on each other in a cycle, with this cycle flag."""

    def __init__(self, flag):
        self.flag = flag


class TooManyFlags(ShiptraceError):
    """Conditions mention this many flags, which is too many."""

    def __init__(self, count):
        self.count = count


class PageBroken(ShiptraceError):
    """The page with this name has a target without a text."""

    def __init__(self, name):
        self.name = name


class InvalidConfig(ShiptraceError):
    """The field with this name is invalid."""

    def __init__(self, field):
        self.field = field


class CommandRefused(ShiptraceError):
    """A command or an action is refused for this reason, a tuple."""

    def __init__(self, reason):
        self.reason = reason
