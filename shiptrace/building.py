"""Building targets of a tree from scratch."""

from shiptrace.errors import BuildFailed
from shiptrace.evaluation import Evaluation, evaluate_with
from shiptrace.texts import each_once
from shiptrace.trees import entry_of

# A rule reads no coins, so it does not matter what they show.
NO_COINS = (0, 0, 0)


def coins_of(seed):
    """Return what the coins show under the seed: its binary digits."""
    return (seed % 2, seed // 2 % 2, seed // 4 % 2)


class Builder:
    """Builds targets of one tree, call after call.

    A target is built to a text in one way only, whatever is active: it would have
    read an active target otherwise, and that is an error. So its text is kept.
    """

    def __init__(self, tree):
        self.tree = tree
        self.begun = ()
        self.built = {}

    def run(self, expression, coins):
        """Evaluate an expression, building each target at the moment when it is read.

        Return its result, its reads, and the characters that are read on the way.
        """
        evaluation = Evaluation(self.tree[0], lambda name: self.attempt(name), coins)
        result = evaluate_with(evaluation, expression)
        return result, tuple(evaluation.reads), each_once(evaluation.characters)

    def attempt(self, target):
        """Return the result of building the target, and the characters that are read."""
        if target in self.begun:
            return ("error", ("cycle", target)), ()
        if target in self.built:
            text, read = self.built[target]
            return ("text", text), read
        rule = entry_of(self.tree[1], target)
        if rule is None:
            return ("error", ("missing target", target)), ()
        before = self.begun
        self.begun = before + (target,)
        try:
            result, _, read = self.run(rule, NO_COINS)
        finally:
            self.begun = before
        if result[0] == "text":
            self.built[target] = (result[1], read)
        return result, read

    def build(self, target):
        """Return the text of the target, and the characters that are read in building it."""
        (kind, value), read = self.attempt(target)
        if kind == "error":
            raise BuildFailed(value)
        return value, read

    @property
    def active(self):
        """The targets that are being built, in the order in which this began."""
        return self.begun

    def __len__(self):
        return len(self.built)


def build(tree, target):
    """Return the result of building the target from scratch, and the characters that are read."""
    return Builder(tree).attempt(target)


def environment_of(tree, seed=0):
    """Return the environment of the tree under the seed."""
    builder = Builder(tree)
    targets = tuple([(name, builder.attempt(name)[0]) for name, _ in tree[1]])
    return tree[0], targets, coins_of(seed)
