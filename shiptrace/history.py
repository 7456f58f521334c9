"""The history of origins on a trunk."""

from shiptrace.trees import characters_of, texts_by_key
from shiptrace.trunk import trees_of


def locations_of(tree, change, index):
    """Return the pairs (key, number) of the characters of the tree with this origin."""
    found = []
    for key, text in texts_by_key(tree):
        for number in range(len(text)):
            if text[number][1:] == (change, index):
                found.append((key, number))
    return tuple(found)


def _is_present(tree, change, index):
    return (change, index) in [character[1:] for character in characters_of(tree)]


def lifetime_of(trunk, change, index):
    """Return the pairs (start, end) of the revisions in which the origin is present."""
    lifetime = []
    start = None
    trees = trees_of(trunk)
    for revision in range(len(trees)):
        present = _is_present(trees[revision], change, index)
        if present and start is None:
            start = revision
        if not present and start is not None:
            lifetime.append((start, revision))
            start = None
    if start is not None:
        lifetime.append((start, None))
    return tuple(lifetime)
