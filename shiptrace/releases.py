"""Releases: pairs `(revision, pages)` of what the pages of a tree show."""

from shiptrace.building import Builder, environment_of
from shiptrace.checks import broken_pages, page_targets, read_for_pages
from shiptrace.errors import PageBroken
from shiptrace.evaluation import result_in
from shiptrace.texts import each_once


def _release_with(tree, revision, targets):
    """Return the release of the tree whose targets have these results."""
    broken = broken_pages(tree, targets)
    if broken:
        raise PageBroken(broken[0])
    pages = []
    for name, parts in tree[3]:
        texts = [(condition, result_in(targets, target)[1]) for condition, target in parts]
        pages.append((name, tuple(texts)))
    return revision, tuple(pages)


def make_release(tree, revision):
    """Return the release that is made of the tree, with this revision."""
    _, targets, _ = environment_of(tree)
    return _release_with(tree, revision, targets)


def make_release_with(cache, tree, revision):
    """Make the release with the cache; return it, and the targets that were executed."""
    targets, executed = cache.build(tree, page_targets(tree))
    return _release_with(tree, revision, targets), executed


def read_for_release(tree):
    """Return the characters that are read for a release of the tree."""
    return each_once(read_for_pages(Builder(tree), tree))


def release_text(release):
    """Return the texts of the parts of the release, one after another."""
    _, pages = release
    return tuple([character for _, parts in pages for _, text in parts for character in text])


def bill_of(release):
    """Return pairs of a change and the number of its characters in the release."""
    counts = {}
    for _, change, _ in release_text(release):
        counts[change] = counts.get(change, 0) + 1
    return tuple(sorted(counts.items()))
