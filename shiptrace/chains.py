"""Chains of steps, such as those from a target to one on which it depends.

`links` is a dict that has for each name, in ascending order, the names to which a
step leads from it; these have places in the dict, too.
"""


def ranks_of(links):
    """Return the lengths of the longest chains, by name, without the names that lead into a cycle."""
    left = dict(links)
    ranks = {}
    rank = 0
    ready = [name for name in left if not left[name]]
    while ready:
        for name in ready:
            ranks[name] = rank
            del left[name]
        rank += 1
        ready = [name for name in left if all([other in ranks for other in left[name]])]
    return ranks


def first_endless(links):
    """Return the first name that leads into a cycle, or None."""
    ranks = ranks_of(links)
    for name in links:
        if name not in ranks:
            return name
    return None
