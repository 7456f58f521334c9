"""A slow pipeline, written from the document's words, and histories of commands drawn by chance.

What a tree, a trunk and a check are is tested elsewhere, so the functions for these are used.
"""

from reference import look, once, random_expression, slow_build, slow_environment, slow_trace
from reference_delivery import Refused, SlowDelivery
from reference_flags import random_clause, random_condition, slow_cycle_flag, slow_enabled, slow_shown
from shiptrace.checks import first_problem, read_by_check
from shiptrace.edits import apply_edits, first_inapplicable, key_of, stamp_edits
from shiptrace.errors import ConflictsWith, DuplicateKey
from shiptrace.owners import missing_approval
from shiptrace.trunk import rebase_to_head, revert_of, tree_at


class SlowPipeline:

    def __init__(self, config):
        self.config = config
        self.changes = []
        self.queue = []
        self.trunk = ()
        self.releases = []
        self.delivery = SlowDelivery(config.rings, config.min_good_users, config.error_budget)
        self.flags = {}
        self.read = []
        self.journal = []

    def execute(self, command):
        """Return the reply, or raise Refused."""
        word, *arguments = command
        reply = getattr(self, word.replace(" ", "_"))(*arguments)
        self.journal.append(command)
        return reply

    def head(self):
        return tree_at(self.trunk, len(self.trunk))

    def sorted_flags(self):
        return tuple([self.flags[name] for name in sorted(self.flags)])

    def state(self):
        names = ("author", "base", "edits", "approvals", "outcome")
        changes = tuple([tuple([change[name] for name in names]) for change in self.changes])
        states = self.delivery.states()
        releases = tuple([release + states[number] for number, release in enumerate(self.releases)])
        return changes, tuple(self.queue), self.trunk, releases, self.delivery.impressions(), self.sorted_flags()

    def check_member(self, name):
        if name not in self.config.members:
            raise Refused("no such member")

    def change(self, number):
        if number >= len(self.changes):
            raise Refused("no such change")
        return self.changes[number]

    def add(self, author, base, edits):
        change = {"author": author, "base": base, "edits": edits, "approvals": (), "outcome": None}
        self.changes.append(change)
        return len(self.changes) - 1

    def propose(self, author, base, edits):
        self.check_member(author)
        if base > len(self.trunk):
            raise Refused("no such revision")
        try:
            key = first_inapplicable(tree_at(self.trunk, base), edits)
        except DuplicateKey as duplicate:
            raise Refused("duplicate key", duplicate.key)
        if key is not None:
            raise Refused("cannot apply", key)
        return self.add(author, base, stamp_edits(edits, len(self.changes)))

    def approve(self, member, number):
        self.check_member(member)
        change = self.change(number)
        if change["author"] == member:
            raise Refused("own change")
        if member in change["approvals"]:
            raise Refused("already approved")
        if change["outcome"] is not None:
            raise Refused("already processed")
        change["approvals"] += (member,)
        return len(change["approvals"])

    def enqueue(self, number):
        if self.change(number)["outcome"] is not None:
            raise Refused("already processed")
        if number in self.queue:
            raise Refused("already queued")
        self.queue.append(number)
        return len(self.queue)

    def process(self, number):
        """Return the outcome of a change that is processed alone."""
        change = self.changes[number]
        keys = tuple([key_of(edit) for edit in change["edits"]])
        key = missing_approval(self.head()[4], change["author"], keys, change["approvals"])
        if key is not None:
            return ("rejected", ("missing approval", key))
        try:
            rebased = rebase_to_head(self.trunk, change["base"], change["edits"])
        except ConflictsWith as conflict:
            return ("rejected", ("conflict", conflict.commit))
        tree = apply_edits(self.head(), rebased)
        self.read.extend(read_by_check(tree))
        problem = first_problem(tree, self.config.threshold)
        if problem is not None:
            return ("rejected", problem)
        self.trunk = self.trunk + ((number, rebased),)
        return ("landed", len(self.trunk) - 1)

    def merge(self, count):
        reply = []
        for number in self.queue[:count]:
            self.changes[number]["outcome"] = self.process(number)
            reply.append((number, self.changes[number]["outcome"]))
        del self.queue[:count]
        return tuple(reply)

    def revert(self, author, commit):
        self.check_member(author)
        if commit >= len(self.trunk):
            raise Refused("no such commit")
        try:
            edits = revert_of(self.trunk, commit)
        except ConflictsWith as conflict:
            raise Refused("conflict", conflict.commit)
        return self.add(author, len(self.trunk), edits)

    def release(self):
        pages = []
        for name, parts in self.head()[3]:
            made = []
            for condition, target in parts:
                (kind, text), read = slow_build(self.head(), target)
                assert kind == "text"
                self.read.extend(read)
                made.append((condition, text))
            pages.append((name, tuple(made)))
        self.releases.append((len(self.trunk), tuple(pages)))
        return self.delivery.cut()

    def promote(self, release):
        return self.delivery.promote(release)

    def block(self, release):
        return self.delivery.block(release)

    def set_flag(self, name, clauses, fallback):
        flags = {**self.flags, name: (name, clauses, fallback)}
        if slow_cycle_flag(tuple(flags.values())) is not None:
            raise Refused("flag cycle")
        if len(flags) > 6:
            raise Refused("too many flags")
        self.flags = flags
        return len(flags)

    def delete_flag(self, name):
        if name not in self.flags:
            raise Refused("no such flag")
        del self.flags[name]
        return len(self.flags)

    def serve(self, user, page):
        release = self.delivery.release_of(user)
        if release is None:
            raise Refused("no release for this user")
        pages = dict(self.releases[release][1])
        if page not in pages:
            raise Refused("no such page")
        numbers = slow_shown(pages[page], slow_enabled(self.sorted_flags(), user))
        return self.delivery.serve(user, page, numbers)

    def report(self, impression, good):
        return self.delivery.report(impression, good)

    def records(self, impression):
        """Return the records of all characters that were served."""
        _, page, release, _, numbers, _ = self.delivery.impressions()[impression]
        revision, pages = self.releases[release]
        tree = tree_at(self.trunk, revision)
        records = []
        for part in numbers:
            target = look(tree[3], page)[part][1]
            influences = once([c[1:] for c in slow_build(tree, target)[1]])
            for index, (sign, change, number) in enumerate(dict(pages)[page][part][1]):
                commit = [landed for landed, _ in self.trunk].index(change)
                author, approvals = self.changes[change]["author"], self.changes[change]["approvals"]
                path = slow_path(tree, target, index)
                records.append((sign, change, number, author, approvals, commit, release, page, part, path, influences))
        return records

    def characters_read(self):
        return tuple(sorted(set([c[1:] for c in self.read])))


def slow_path(tree, target, index):
    """Return the provenance path of a character."""
    _, (_, addresses) = slow_trace(look(tree[1], target), slow_environment(tree))
    word, *rest = addresses[index]
    step = (("target", target, index),)
    if word == "target":
        return step + slow_path(tree, *rest)
    return step + ((word, target, rest[0]) if word == "literal" else addresses[index],)


def written(expression):
    """Return the written expression with the signs of a stamped one."""
    if expression[0] == "literal":
        return ("literal", "".join([c[0] for c in expression[1]]))
    return tuple([written(part) if isinstance(part, tuple) else part for part in expression])


MEMBERS = ("ann", "bob", "cid")
PATHS = ("a", "a/b", "b", "c.c")
BASE = (
    ("write", "a", "ab/ab"), ("write", "b", "b"), ("set rule", "r", ("concat", ("file", "a"), ("literal", "!"))),
    ("set rule", "s", ("find", ("target", "r"), ("optional file", "b"))),
    ("set page", "p", ((("always",), "r"), (("flag", "a"), "s"))),
    ("set test", "k", ("concat", ("target", "s"), ("coin", 1, ("literal", "x"), ("literal", "y")))),
)
START = (
    ("propose", "ann", 0, BASE), ("approve", "bob", 0), ("enqueue", 0), ("merge", 1), ("release",), ("promote", 0),
)


def random_hunks(rng, length):
    """Return hunks, most of which fit the length."""
    index = rng.randrange(length + 1)
    removed = rng.randrange(min(2, length - index) + 1)
    hunks = [(index, removed, rng.choice(("x", "/", "ab") if removed == 0 else ("", "x", "ba")))]
    index += removed + 1
    if index <= length and rng.randrange(2):
        hunks.append((index, 0, "y"))
    return tuple(hunks)


def random_edit(rng, tree):
    path, name = rng.choice(PATHS), rng.choice(("r", "s", "t", "u"))
    case = rng.randrange(12)
    if case < 3:
        return ("write", path, "".join([rng.choice("ab/!") for _ in range(rng.randrange(5))]))
    if case < 6 and look(tree[0], path) is not None:
        return ("patch", path, random_hunks(rng, len(look(tree[0], path))))
    if case == 6:
        return ("delete", path)
    if case < 9:
        others = [other for other in ("r", "s", "t", "u") if other > name or rng.randrange(9) == 0] or ["z"]
        return ("set rule", name, written(random_expression(rng, 2, False, others)))
    if case == 9:
        if rng.randrange(3) == 0:
            return ("delete test", "k")
        return ("set test", rng.choice("kl"), written(random_expression(rng, 3, True, ("r", "s"))))
    if case == 10:
        parts = [(random_condition(rng, 2, ("a", "b")), rng.choice("rrst")) for _ in range(rng.randrange(4))]
        return ("set page", rng.choice("pq"), tuple(parts))
    return rng.choice((
        ("set owners", (("file:*", ("ann", "bob")),)), ("set owners", ()), ("delete page", "q"), ("delete rule", name),
    ))


def random_proposal(rng, pipe):
    commits = len(pipe.state()[2])
    base = max(0, commits - rng.choice((0, 0, 0, 0, 1, 3)))
    if rng.randrange(30) == 0:
        base = commits + 1
    tree = tree_at(pipe.state()[2], min(base, commits))
    edits = tuple([random_edit(rng, tree) for _ in range(rng.choice((1, 1, 1, 2, 3)))])
    return ("propose", rng.choice(MEMBERS + MEMBERS + ("dee",)), base, edits)


def random_delivery_command(rng, pipe):
    case = rng.randrange(14)
    if case == 0:
        return ("release",)
    if case < 4:
        return ("promote", rng.randrange(len(pipe.state()[3]) + 1))
    if case == 4:
        return ("block", rng.randrange(9))
    if case in (5, 6):
        clauses = tuple([random_clause(rng) for _ in range(rng.randrange(3))])
        return ("set flag", rng.choice("abcdefg"), clauses, rng.random() < 0.5)
    if case == 7:
        return ("delete flag", rng.choice("abyz"))
    if case < 11:
        return ("serve", rng.choice((0, 1, 2, 3, 16, 17, 999)), rng.choice("pppq"))
    return ("report", rng.randrange(len(pipe.state()[4]) + 1), rng.random() < 0.7)


def random_approval(rng, changes, last):
    """Return an approval that is missing, or any one."""
    if changes and rng.randrange(4):
        author, _, _, approvals, _ = changes[last]
        others = [name for name in MEMBERS if name != author and name not in approvals]
        return ("approve", rng.choice(others or MEMBERS), last)
    return ("approve", rng.choice(MEMBERS + ("dee",)), last + rng.randrange(2))


def random_enqueuing(rng, changes, queue, last):
    """Return a command that appends an approved change to the queue, or any one."""
    ready = [number for number, change in enumerate(changes) if change[3] and change[4] is None and number not in queue]
    if ready and rng.randrange(4):
        return ("enqueue", rng.choice(ready))
    return ("enqueue", last + (rng.random() < 0.1))


def random_command(rng, pipe):
    """Return a command that makes sense more often than not in the state of the pipeline."""
    changes, queue, trunk, _, _, _ = pipe.state()
    last = max(0, len(changes) - 1 - rng.choice((0, 0, 0, 1, 2)))
    case = rng.randrange(20)
    if case < 4:
        return random_proposal(rng, pipe)
    if case < 8:
        return random_approval(rng, changes, last)
    if case < 11:
        return random_enqueuing(rng, changes, queue, last)
    if case < 13:
        return ("merge", rng.choice((1, 2, 3, 8)))
    if case == 13:
        return ("revert", rng.choice(MEMBERS * 3 + ("dee",)), max(0, len(trunk) - rng.randrange(4)))
    return random_delivery_command(rng, pipe)
