"""The trunk: a tuple of commits `(change, edits)`."""

from shiptrace.edits import apply_edits, edits_conflict, invert_edits, rebase_edits
from shiptrace.errors import ConflictsWith, NoSuchCommit, NoSuchRevision
from shiptrace.trees import EMPTY


def _check_revision(trunk, revision):
    if revision > len(trunk):
        raise NoSuchRevision("the trunk has fewer commits")


def _check_commit(trunk, commit):
    if commit >= len(trunk):
        raise NoSuchCommit("the trunk has no commit with this number")


def tree_at(trunk, revision):
    """Return the tree of the revision."""
    _check_revision(trunk, revision)
    tree = EMPTY
    for _, edits in trunk[:revision]:
        tree = apply_edits(tree, edits)
    return tree


def trees_of(trunk):
    """Return the list of the trees of all revisions."""
    trees = [EMPTY]
    for _, edits in trunk:
        trees.append(apply_edits(trees[-1], edits))
    return trees


def rebase_to_head(trunk, revision, edits):
    """Return the stamped edits, which are for the revision, rebased to the head."""
    _check_revision(trunk, revision)
    rebased = edits
    for number in range(revision, len(trunk)):
        _, landed = trunk[number]
        if edits_conflict(rebased, landed):
            raise ConflictsWith(number)
        rebased = rebase_edits(rebased, landed)
    return rebased


def _moved_over(trunk, start, edits):
    """Return the list of the commits from the start number on, moved over the edits."""
    moved = []
    over = edits
    for number in range(start, len(trunk)):
        change, landed = trunk[number]
        if edits_conflict(over, landed):
            raise ConflictsWith(number)
        moved.append((change, rebase_edits(landed, over)))
        over = rebase_edits(over, landed)
    return moved


def with_earlier(trunk, revision, commit):
    """Return the trunk with the commit at the revision, before all later ones."""
    _check_revision(trunk, revision)
    _, edits = commit
    return trunk[:revision] + (commit,) + tuple(_moved_over(trunk, revision, edits))


def _undoing_edits(trunk, commit):
    _, edits = trunk[commit]
    return invert_edits(tree_at(trunk, commit), edits)


def revert_of(trunk, commit):
    """Return the edits that undo the commit at the head."""
    _check_commit(trunk, commit)
    return rebase_to_head(trunk, commit + 1, _undoing_edits(trunk, commit))


def trunk_without(trunk, commit):
    """Return the trunk as if there had never been the commit."""
    _check_commit(trunk, commit)
    return trunk[:commit] + tuple(_moved_over(trunk, commit + 1, _undoing_edits(trunk, commit)))
