"""Running tests, which may flip coins."""

from shiptrace.building import Builder, coins_of
from shiptrace.errors import NoSuchTest
from shiptrace.texts import each_once
from shiptrace.trees import entry_of

SEEDS = (0, 1, 2, 3, 4, 5, 6, 7)

# By how much a seed grows if a coin shows 1 in the place of 0.
WORTHS = (1, 2, 4)


def passes_with(result):
    """Return True if a test with this result passes."""
    kind, value = result
    return kind == "text" and len(value) > 0


def run_with(builder, test, seed):
    """Run a test of the tree of the builder; return (passes, flips, read)."""
    result, reads, characters = builder.run(test, coins_of(seed))
    flips = each_once([(read[1], read[2]) for read in reads if read[0] == "coin"])
    return passes_with(result), flips, characters


def _test_of(tree, name):
    test = entry_of(tree[2], name)
    if test is None:
        raise NoSuchTest(name)
    return test


def run_test(tree, name, seed):
    """Run the test under the seed; return (passes, flips, read)."""
    return run_with(Builder(tree), _test_of(tree, name), seed)


def _all_runs(tree, name):
    """Return the list of the runs under the seeds in ascending order."""
    test = _test_of(tree, name)
    builder = Builder(tree)
    return [run_with(builder, test, seed) for seed in SEEDS]


def test_paths(tree, name):
    """Return the pairs (flips, passes) of all runs, each once."""
    # Two paths that differ flip the same coin at the first place where they differ.
    return tuple(sorted(set([(flips, passes) for passes, flips, _ in _all_runs(tree, name)])))


def count_passes(tree, name):
    """Return the number of the seeds under which the test passes."""
    return len([True for passes, _, _ in _all_runs(tree, name) if passes])


def decisive_coins(tree, name):
    """Return the coins that alone can decide whether the test passes, in ascending order."""
    passes = [run[0] for run in _all_runs(tree, name)]
    decisive = []
    for coin in range(len(WORTHS)):
        shows_0 = [seed for seed in SEEDS if coins_of(seed)[coin] == 0]
        if any([passes[seed] != passes[seed + WORTHS[coin]] for seed in shows_0]):
            decisive.append(coin)
    return tuple(decisive)
