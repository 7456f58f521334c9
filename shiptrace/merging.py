"""Merging: which waiting changes land on the trunk.

A waiting change is a tuple `(number, author, base, edits, approvals)`.
"""

from shiptrace.checks import check_with, first_problem
from shiptrace.edits import apply_edits, key_of
from shiptrace.errors import ConflictsWith
from shiptrace.owners import missing_approval
from shiptrace.selections import selections_of
from shiptrace.trees import OWNERS_PLACE
from shiptrace.trunk import rebase_to_head, tree_at


def _considered(trunk, head, change):
    """Return (reason, commit) for a change on the trunk with this head tree; one of them is None.

    The reason is a missing approval or a conflict; without one, the change becomes the commit.
    """
    number, author, base, edits, approvals = change
    keys = tuple([key_of(edit) for edit in edits])
    key = missing_approval(head[OWNERS_PLACE], author, keys, approvals)
    if key is not None:
        return ("missing approval", key), None
    try:
        rebased = rebase_to_head(trunk, base, edits)
    except ConflictsWith as conflict:
        return ("conflict", conflict.commit), None
    return None, (number, rebased)


def process_with_trees(trunk, waiting, threshold):
    """Process the changes one after another; return the trunk, their outcomes and the checked trees.

    A tree is checked for each change that has its approvals and conflicts with no commit.
    """
    landed = trunk
    head = tree_at(trunk, len(trunk))
    outcomes = []
    checked = []
    for change in waiting:
        reason, commit = _considered(landed, head, change)
        if reason is None:
            tree = apply_edits(head, commit[1])
            checked.append(tree)
            reason = first_problem(tree, threshold)
        if reason is None:
            outcomes.append(("landed", len(landed)))
            landed = landed + (commit,)
            head = tree
        else:
            outcomes.append(("rejected", reason))
    return landed, tuple(outcomes), tuple(checked)


def process(trunk, waiting, threshold):
    """Process the changes one after another; return the trunk and their outcomes."""
    landed, outcomes, _ = process_with_trees(trunk, waiting, threshold)
    return landed, outcomes


def _apply_batch(trunk, batch):
    """Return a list of triples (reason, commit, tree), one for each change of the batch.

    A refused change has a reason; an applied one has a commit and the tree that results.
    """
    grown = trunk
    head = tree_at(trunk, len(trunk))
    steps = []
    for change in batch:
        reason, commit = _considered(grown, head, change)
        if reason is None:
            grown = grown + (commit,)
            head = apply_edits(head, commit[1])
        steps.append((reason, commit, head))
    return steps


def _settle_batch(trunk, steps, problems):
    """Return the trunk and the list of the outcomes that the changes of a batch get.

    `problems` has the first problem, or None, of the tree of each applied change. The
    changes behind the first one with a problem get no outcome.
    """
    landed = trunk
    outcomes = []
    at = 0
    for reason, commit, _ in steps:
        if reason is not None:
            outcomes.append(("rejected", reason))
            continue
        if problems[at] is not None:
            outcomes.append(("rejected", problems[at]))
            break
        outcomes.append(("landed", len(landed)))
        landed = landed + (commit,)
        at += 1
    return landed, outcomes


def process_in_batches(trunk, waiting, threshold, batch_size, cache):
    """Process the changes in batches; return the trunk, the outcomes and what was executed."""
    landed = trunk
    outcomes = []
    executed = []
    while len(outcomes) < len(waiting):
        steps = _apply_batch(landed, waiting[len(outcomes):len(outcomes) + batch_size])
        problems = []
        for reason, _, tree in steps:
            if reason is None:
                problem, run = check_with(cache, tree, threshold)
                problems.append(problem)
                executed.extend(run)
        landed, settled = _settle_batch(landed, steps, problems)
        outcomes.extend(settled)
    return landed, tuple(outcomes), tuple(executed)


def _land_together(trunk, waiting, threshold):
    _, outcomes = process(trunk, waiting, threshold)
    return all([outcome[0] == "landed" for outcome in outcomes])


def most_mergeable(trunk, waiting, threshold):
    """Return the numbers of the longest selection of the changes that can land together."""
    for length in range(len(waiting), 0, -1):
        for selection in selections_of(waiting, length):
            if _land_together(trunk, selection, threshold):
                return tuple([change[0] for change in selection])
    return ()
