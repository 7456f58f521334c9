"""Trees: tuples `(files, rules, tests, pages, owners)`."""

from shiptrace.expressions import literals_of

EMPTY = ((), (), (), (), ())

OWNERS_KEY = "owners:"
OWNERS_PLACE = 4

# The kinds of keys that have a name, by the place of their pairs in a tree.
KINDS = ("file", "rule", "test", "page")


def key_for(kind, name):
    """Return the key of the file, rule, test or page with this name."""
    return kind + ":" + name


def _place_and_name(key):
    """Return the place of the key in a tree, and the name in it."""
    kind, _, name = key.partition(":")
    place = OWNERS_PLACE if key == OWNERS_KEY else KINDS.index(kind)
    return place, name


def entry_of(pairs, name):
    """Return what the pairs have for the name, or None."""
    for known, value in pairs:
        if known == name:
            return value
    return None


def with_entry(pairs, name, value):
    """Return the pairs with the name set to the value."""
    before = [pair for pair in pairs if pair[0] < name]
    behind = [pair for pair in pairs if pair[0] > name]
    return tuple(before + [(name, value)] + behind)


def without_entry(pairs, name):
    """Return the pairs without the one with this name."""
    return tuple([pair for pair in pairs if pair[0] != name])


def contents_of(tree, key):
    """Return what the tree has under the key, or None."""
    place, name = _place_and_name(key)
    if place == OWNERS_PLACE:
        return tree[place]
    return entry_of(tree[place], name)


def with_contents(tree, key, value):
    """Return the tree with the value under the key; None stands for nothing."""
    place, name = _place_and_name(key)
    if place == OWNERS_PLACE:
        changed = value
    elif value is None:
        changed = without_entry(tree[place], name)
    else:
        changed = with_entry(tree[place], name, value)
    return tree[:place] + (changed,) + tree[place + 1:]


def texts_by_key(tree):
    """Return pairs of a key and the text of its characters: files, rules and tests."""
    files, rules, tests, _, _ = tree
    found = [(key_for("file", path), text) for path, text in files]
    found.extend([(key_for("rule", name), literals_of(rule)) for name, rule in rules])
    found.extend([(key_for("test", name), literals_of(test)) for name, test in tests])
    return found


def characters_of(tree):
    """Return the text of the characters of the tree."""
    return tuple([character for _, text in texts_by_key(tree) for character in text])


def files_under(files, prefix):
    """Return the list of the pairs of files whose paths start with the prefix, in order."""
    return [(path, text) for path, text in files if path.startswith(prefix)]


def paths_under(tree, prefix):
    """Return the paths of the files that start with the prefix, in order."""
    return tuple([path for path, _ in files_under(tree[0], prefix)])


def differing_keys(old, new):
    """Return the keys under which the two trees differ, in order."""
    keys = []
    for place in range(len(KINDS)):
        names = sorted(set([name for name, _ in old[place] + new[place]]))
        keys.extend([key_for(KINDS[place], name) for name in names])
    keys.append(OWNERS_KEY)
    return tuple([key for key in keys if contents_of(old, key) != contents_of(new, key)])
