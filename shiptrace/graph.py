"""Which targets depend on which, and the order in which they are built."""

from shiptrace.chains import first_endless, ranks_of
from shiptrace.errors import DependencyCycle, NoSuchTarget
from shiptrace.expressions import references_of
from shiptrace.trees import entry_of


def dependencies_of(tree, target):
    """Return the names of the targets on which the target depends."""
    rule = entry_of(tree[1], target)
    names = () if rule is None else references_of(rule)[0]
    return tuple([name for name in names if entry_of(tree[1], name) is not None])


def _links_of(tree):
    return {name: dependencies_of(tree, name) for name, _ in tree[1]}


def find_cycle(tree):
    """Return the cycle target of the tree, or None."""
    return first_endless(_links_of(tree))


def _checked_ranks(tree):
    """Return the ranks of all targets that have rules; raise DependencyCycle."""
    target = find_cycle(tree)
    if target is not None:
        raise DependencyCycle(target)
    return ranks_of(_links_of(tree))


def rank_of(tree, target):
    """Return the length of a longest chain that starts at the target."""
    ranks = _checked_ranks(tree)
    if target not in ranks:
        raise NoSuchTarget(target)
    return ranks[target]


def build_order(tree, targets):
    """Return the names of the targets and of all that they depend on, by rank and name."""
    ranks = _checked_ranks(tree)
    waiting = [name for name in targets if name in ranks]
    needed = {}
    while waiting:
        name = waiting.pop()
        if name not in needed:
            needed[name] = ranks[name]
            waiting.extend(dependencies_of(tree, name))
    return tuple([name for _, name in sorted([(needed[name], name) for name in needed])])


def waves(tree, targets, workers):
    """Return the waves in which so many workers build the targets."""
    left = build_order(tree, targets)
    built = {}
    found = []
    while left:
        ready = [name for name in left if all([other in built for other in dependencies_of(tree, name)])]
        wave = tuple(ready[:workers])
        for name in wave:
            built[name] = True
        found.append(wave)
        left = [name for name in left if name not in built]
    return tuple(found)
