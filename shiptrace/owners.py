"""Owner rules: whose approval counts for which keys."""

from shiptrace.patterns import deciding
from shiptrace.selections import selections_of
from shiptrace.trees import OWNERS_KEY


def owners_of(owners, key):
    """Return the names of the owners of the key."""
    number = deciding(tuple([pattern for pattern, _ in owners]), key)
    return () if number is None else owners[number][1]


def approval_counts(owners, author, key, person):
    """Return True if the approval of the person counts for the key of a change of the author."""
    names = owners_of(owners, key)
    return person != author and (len(names) == 0 or person in names)


def _counting(owners, author, key, people):
    """Return those of the people whose approval counts for the key, in their order."""
    return tuple([person for person in people if approval_counts(owners, author, key, person)])


def missing_approval(owners, author, keys, approvals):
    """Return the first of the keys for which none of the approvals counts, or None."""
    for key in keys:
        if not _counting(owners, author, key, approvals):
            return key
    return None


def _suffice(owners, author, keys, candidates):
    return missing_approval(owners, author, keys, candidates) is None


def minimal_reviewers(owners, author, keys, candidates):
    """Return the shortest selection from the candidates that suffices, or None."""
    for length in range(len(candidates) + 1):
        for selection in selections_of(candidates, length):
            if _suffice(owners, author, keys, selection):
                return selection
    return None


def required_reviewers(owners, author, keys, candidates):
    """Return the candidates without whom the others do not suffice."""
    required = []
    for candidate in candidates:
        others = tuple([other for other in candidates if other != candidate])
        if not _suffice(owners, author, keys, others):
            required.append(candidate)
    return tuple(required)


def blocking_reviewers(owners, author, keys, candidates):
    """Return those who can approve the key for which the fewest candidates can."""
    counting = [_counting(owners, author, key, candidates) for key in keys]
    fewest = min([len(people) for people in counting])
    return [people for people in counting if len(people) == fewest][0]


def _author_and_approver(owners, group, key):
    """Return the first author of the group with the first approver for the key, or None."""
    for author in group:
        approvers = _counting(owners, author, key, group)
        if approvers:
            return author, approvers[0]
    return None


def has_direct_access(owners, group, key):
    """Return True if one of the group can change the key with the approval of another one."""
    return _author_and_approver(owners, group, key) is not None


def takeover_of(owners, group, key):
    """Return how the group gets access to the key, or None."""
    if has_direct_access(owners, group, key):
        return ()
    pair = _author_and_approver(owners, group, OWNERS_KEY)
    if pair is None:
        return None
    author, approver = pair
    return ((author, approver, ()),)
