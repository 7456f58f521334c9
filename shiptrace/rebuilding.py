"""Rebuilding a tree from an older one with the traces of its rules."""

from shiptrace.building import NO_COINS, build, environment_of
from shiptrace.errors import DependencyCycle, NoSuchTarget
from shiptrace.evaluation import evaluate
from shiptrace.expressions import references_of, shape_of, subexpressions
from shiptrace.graph import build_order, find_cycle
from shiptrace.traces import first_untrue, is_valid, replay, trace_of
from shiptrace.trees import entry_of, with_entry


def _check_cycles(old, new):
    for tree in (old, new):
        target = find_cycle(tree)
        if target is not None:
            raise DependencyCycle(target)


def _check_target(new, target):
    if entry_of(new[1], target) is None:
        raise NoSuchTarget(target)


def _old_trace(old, new, target, environment):
    """Return the trace of the old rule in the environment of the old tree.

    There is none if the new rule has another shape, or if there is no old rule.
    """
    before = entry_of(old[1], target)
    if before is None or shape_of(before) != shape_of(entry_of(new[1], target)):
        return None
    return trace_of(before, environment)


def status_of(old, new, target):
    """Return the status of the target in the new tree relative to the old one."""
    _check_cycles(old, new)
    _check_target(new, target)
    trace = _old_trace(old, new, target, environment_of(old))
    if trace is None or not is_valid(trace, entry_of(new[1], target), environment_of(new)):
        return "rebuilt"
    before, _ = build(old, target)
    after, _ = build(new, target)
    return "unchanged" if before == after else "replayed"


def cause_of(old, new, target):
    """Return the read for which the target is rebuilt, or None."""
    _check_cycles(old, new)
    _check_target(new, target)
    trace = _old_trace(old, new, target, environment_of(old))
    if trace is None:
        return None
    return first_untrue(trace, entry_of(new[1], target), environment_of(new))


def rebuild(old, new):
    """Return the results of all targets of the new tree, and the targets that are executed."""
    _check_cycles(old, new)
    recorded = environment_of(old)
    results = ()
    executed = []
    for target in build_order(new, tuple([name for name, _ in new[1]])):
        rule = entry_of(new[1], target)
        # A trace reads only targets that the rule references; these have their results by now.
        environment = (new[0], results, NO_COINS)
        trace = _old_trace(old, new, target, recorded)
        result = None if trace is None else replay(trace, rule, environment)
        if result is None:
            result, _ = evaluate(rule, environment)
            executed.append(target)
        results = with_entry(results, target, result)
    return results, tuple(executed)


def _reads_file(expression, path):
    """Return True if the expression itself, not a part of it, may read the file."""
    if expression[0] in ("file", "optional file"):
        return expression[1] == path
    if expression[0] == "concat files":
        return path.startswith(expression[1])
    return expression[0] == "dynamic file"


def _is_directly_affected(name, rule, key):
    kind, _, changed = key.partition(":")
    if kind == "file":
        return any([_reads_file(part, changed) for part in subexpressions(rule)])
    return kind == "rule" and (changed == name or changed in references_of(rule)[0])


def affected_targets(tree, keys):
    """Return the names of the targets that the keys affect, in ascending order."""
    affected = {}
    found = [name for name, rule in tree[1] if any([_is_directly_affected(name, rule, key) for key in keys])]
    while found:
        for name in found:
            affected[name] = True
        left = [(name, references_of(rule)[0]) for name, rule in tree[1] if name not in affected]
        found = [name for name, names in left if any([other in affected for other in names])]
    return tuple(sorted(affected))
