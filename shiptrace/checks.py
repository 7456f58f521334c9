"""Checks: whether a tree may land."""

from shiptrace.building import Builder, coins_of, environment_of
from shiptrace.coins import SEEDS, count_passes, passes_with, run_with
from shiptrace.evaluation import result_in
from shiptrace.expressions import references_of
from shiptrace.graph import find_cycle
from shiptrace.texts import each_once

# What a tree may have at most of each kind, by its place in the tree.
LIMITS = (("files", 12), ("rules", 12), ("tests", 6), ("pages", 4))


def _problem_of_form(tree):
    """Return the first problem of form, or None."""
    for place in range(len(LIMITS)):
        word, most = LIMITS[place]
        if len(tree[place]) > most:
            return ("too many", word)
    target = find_cycle(tree)
    return None if target is None else ("cycle", target)


def page_targets(tree):
    """Return the targets of all parts of all pages, in order."""
    return tuple([target for _, parts in tree[3] for _, target in parts])


def broken_pages(tree, targets):
    """Return the list of the names of the broken pages when the targets evaluate to these results."""
    broken = []
    for name, parts in tree[3]:
        kinds = [result_in(targets, target)[0] for _, target in parts]
        if "error" in kinds:
            broken.append(name)
    return broken


def read_for_pages(builder, tree):
    """Return the list of the characters that are read in building the targets of all pages."""
    return [character for target in page_targets(tree) for character in builder.attempt(target)[1]]


def all_problems(tree, threshold):
    """Return all problems of the tree."""
    problem = _problem_of_form(tree)
    if problem is not None:
        return (problem,)
    _, targets, _ = environment_of(tree)
    broken = [("broken page", name) for name in broken_pages(tree, targets)]
    failing = [("failing test", name) for name, _ in tree[2] if count_passes(tree, name) < threshold]
    return tuple(broken + failing)


def first_problem(tree, threshold):
    """Return the first problem of the tree, or None if it passes the check."""
    problems = all_problems(tree, threshold)
    return problems[0] if problems else None


def read_by_check(tree):
    """Return the characters that are read by a check of the tree."""
    if _problem_of_form(tree) is not None:
        return ()
    builder = Builder(tree)
    characters = read_for_pages(builder, tree)
    for _, test in tree[2]:
        for seed in SEEDS:
            _, _, read = run_with(builder, test, seed)
            characters.extend(read)
    return each_once(characters)


def _run_with_cache(cache, tree, targets, test):
    """Run a test under all seeds; return how often it passes and how often it is executed."""
    passes = 0
    executed = 0
    for seed in SEEDS:
        result, new = cache.evaluate(test, (tree[0], targets, coins_of(seed)))
        if passes_with(result):
            passes += 1
        if new:
            executed += 1
    return passes, executed


def check_with(cache, tree, threshold):
    """Check the tree with the cache; return the first problem or None, and what was executed."""
    problem = _problem_of_form(tree)
    if problem is not None:
        return problem, ()
    referenced = [name for _, test in tree[2] for name in references_of(test)[0]]
    targets, built = cache.build(tree, page_targets(tree) + tuple(referenced))
    executed = [("target", name) for name in built]
    broken = broken_pages(tree, targets)
    if broken:
        return ("broken page", broken[0]), tuple(executed)
    for name, test in tree[2]:
        passes, many = _run_with_cache(cache, tree, targets, test)
        executed.extend([("test", name)] * many)
        if passes < threshold:
            return ("failing test", name), tuple(executed)
    return None, tuple(executed)
