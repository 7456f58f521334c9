"""Provenance: from where the characters of targets were copied, and what influenced them.

A step refers to a character in a tree: `("target", name, i)`, `("file", path, i)` or
`("literal", name, i)`.
"""

from shiptrace.building import build, environment_of
from shiptrace.errors import NoSuchCharacter, NoSuchTarget
from shiptrace.evaluation import result_in
from shiptrace.expressions import literals_of
from shiptrace.texts import each_once
from shiptrace.traces import trace_of
from shiptrace.trees import entry_of


def _rule_of(tree, target):
    rule = entry_of(tree[1], target)
    if rule is None:
        raise NoSuchTarget(target)
    return rule


def _step_from(tree, environment, target, index):
    """Return the step from which the character of the target was copied; raise the errors."""
    rule = _rule_of(tree, target)
    kind, value = result_in(environment[1], target)
    if kind == "error" or index >= len(value):
        raise NoSuchCharacter("the target has no such character")
    _, (_, addresses) = trace_of(rule, environment)
    address = addresses[index]
    return ("literal", target, address[1]) if address[0] == "literal" else address


def copied_from(tree, target, index):
    """Return the step from which the character of the target was copied."""
    return _step_from(tree, environment_of(tree), target, index)


def path_of(tree, target, index):
    """Return the provenance path of the character of the target."""
    environment = environment_of(tree)
    path = [("target", target, index)]
    while path[-1][0] == "target":
        _, name, number = path[-1]
        path.append(_step_from(tree, environment, name, number))
    return tuple(path)


def _is_source(tree, step):
    """Return True if the step refers to an existing character of a file or of a literal."""
    kind, name, index = step
    if kind == "file":
        text = entry_of(tree[0], name)
        return text is not None and index < len(text)
    if kind == "literal":
        rule = entry_of(tree[1], name)
        return rule is not None and index < len(literals_of(rule))
    return False


def _leads_to(tree, environment, step, other):
    """Return True if the step refers to a character of a target that was copied from the other."""
    kind, name, index = step
    if kind != "target":
        return False
    try:
        source = _step_from(tree, environment, name, index)
    except (NoSuchTarget, NoSuchCharacter):
        return False
    return source == other


def is_path(tree, steps):
    """Return True if the steps are a valid path in the tree."""
    if not steps or not _is_source(tree, steps[-1]):
        return False
    environment = environment_of(tree)
    return all([_leads_to(tree, environment, steps[k], steps[k + 1]) for k in range(len(steps) - 1)])


def copies_of(tree, change, index):
    """Return the pairs (target, i) of the characters of targets that have this origin."""
    _, targets, _ = environment_of(tree)
    copies = []
    for name, (kind, value) in targets:
        if kind == "text":
            copies.extend([(name, i) for i in range(len(value)) if value[i][1:] == (change, index)])
    return tuple(copies)


def influences_of(tree, target):
    """Return the origins of the characters that are read in building the target."""
    _rule_of(tree, target)
    _, read = build(tree, target)
    return each_once([character[1:] for character in read])
