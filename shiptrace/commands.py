"""The commands of a pipeline: each is refused for a reason, or executed with a reply."""

from shiptrace.edits import first_inapplicable, stamp_edits
from shiptrace.errors import CommandRefused, ConflictsWith, DuplicateKey
from shiptrace.flags import enabled_flags, first_cyclic_flag, with_flag, without_flag
from shiptrace.pages import shown_parts
from shiptrace.trees import entry_of
from shiptrace.trunk import revert_of, tree_at

MOST_FLAGS = 6


def _refuse_if(applies, reason):
    """Raise CommandRefused if the reason applies."""
    if applies:
        raise CommandRefused(reason)


def _check_member(project, name):
    _refuse_if(name not in project.config.members, ("no such member",))


def _check_change(project, number):
    _refuse_if(number >= len(project.changes), ("no such change",))


def _problem_with(tree, edits):
    """Return the reason for which written edits cannot be proposed for the tree, or None."""
    try:
        key = first_inapplicable(tree, edits)
    except DuplicateKey as duplicate:
        return ("duplicate key", duplicate.key)
    return None if key is None else ("cannot apply", key)


def _propose(project, author, base, edits):
    _check_member(project, author)
    _refuse_if(base > len(project.trunk), ("no such revision",))
    reason = _problem_with(tree_at(project.trunk, base), edits)
    _refuse_if(reason is not None, reason)
    return project.add_change(author, base, stamp_edits(edits, len(project.changes)))


def _approve(project, member, number):
    _check_member(project, member)
    _check_change(project, number)
    author, _, _, approvals, outcome = project.changes[number]
    _refuse_if(member == author, ("own change",))
    _refuse_if(member in approvals, ("already approved",))
    _refuse_if(outcome is not None, ("already processed",))
    project.replace_change(number, approvals + (member,), None)
    return len(approvals) + 1


def _enqueue(project, number):
    _check_change(project, number)
    _refuse_if(project.changes[number][4] is not None, ("already processed",))
    _refuse_if(number in project.queue, ("already queued",))
    project.queue = project.queue + (number,)
    return len(project.queue)


def _merge(project, count):
    taken = project.queue[:count]
    trunk, outcomes = project.merged(project.waiting(taken))
    project.queue = project.queue[count:]
    project.land(trunk)
    for number, outcome in zip(taken, outcomes):
        project.replace_change(number, project.changes[number][3], outcome)
    return tuple(zip(taken, outcomes))


def _revert(project, author, commit):
    _check_member(project, author)
    _refuse_if(commit >= len(project.trunk), ("no such commit",))
    try:
        edits = revert_of(project.trunk, commit)
    except ConflictsWith as conflict:
        raise CommandRefused(("conflict", conflict.commit)) from None
    return project.add_change(author, len(project.trunk), edits)


def _release(project):
    project.releases = project.releases + (project.made_release(),)
    return project.delivery.cut()


def _promote(project, release):
    return project.delivery.promote(release)


def _block(project, release):
    return project.delivery.block(release)


def _set_flag(project, name, clauses, fallback):
    flags = with_flag(project.flags, (name, clauses, fallback))
    _refuse_if(first_cyclic_flag(flags) is not None, ("flag cycle",))
    _refuse_if(len(flags) > MOST_FLAGS, ("too many flags",))
    project.flags = flags
    return len(flags)


def _delete_flag(project, name):
    flags = without_flag(project.flags, name)
    _refuse_if(flags == project.flags, ("no such flag",))
    project.flags = flags
    return len(flags)


def _serve(project, user, page):
    release = project.release_of(user)
    _refuse_if(release is None, ("no release for this user",))
    parts = entry_of(project.releases[release][1], page)
    _refuse_if(parts is None, ("no such page",))
    numbers = shown_parts(parts, enabled_flags(project.flags, user))
    return project.delivery.serve(user, page, numbers)


def _report(project, impression, good):
    return project.delivery.report(impression, good)


COMMANDS = {
    "propose": _propose,
    "approve": _approve,
    "enqueue": _enqueue,
    "merge": _merge,
    "revert": _revert,
    "release": _release,
    "promote": _promote,
    "block": _block,
    "set flag": _set_flag,
    "delete flag": _delete_flag,
    "serve": _serve,
    "report": _report,
}


def execute_command(project, command):
    """Execute the command and return its reply; raise CommandRefused."""
    word, *arguments = command
    action = COMMANDS[word]
    reply = action(project, *arguments)
    project.commands = project.commands + (command,)
    return reply
