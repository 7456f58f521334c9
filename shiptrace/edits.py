"""Edits: the changes of a tree that a change proposes."""

from shiptrace.errors import CannotApply, DuplicateKey, EditsConflict
from shiptrace.expressions import literal_values, stamp_expression
from shiptrace.hunks import apply_hunks, fits, invert_hunks, rebase_hunks, touch
from shiptrace.texts import stamp
from shiptrace.trees import OWNERS_KEY, contents_of, key_for, with_contents

# What kind of key each form of an edit has.
KIND_OF = {
    "write": "file",
    "patch": "file",
    "delete": "file",
    "set rule": "rule",
    "delete rule": "rule",
    "set test": "test",
    "delete test": "test",
    "set page": "page",
    "delete page": "page",
    "set owners": "owners",
}

# The forms that set and that remove what a tree has under a kind of key.
SETTING = {"file": "write", "rule": "set rule", "test": "set test", "page": "set page"}
REMOVING = {"file": "delete", "rule": "delete rule", "test": "delete test", "page": "delete page"}


def key_of(edit):
    """Return the key of a written or stamped edit."""
    kind = KIND_OF[edit[0]]
    return OWNERS_KEY if kind == "owners" else key_for(kind, edit[1])


def _removes(edit):
    return edit[0] in ("delete", "delete rule", "delete test", "delete page")


def _introduced(edit):
    """Return the list of the texts, or the strings, that the edit introduces."""
    if edit[0] == "write":
        return [edit[2]]
    if edit[0] == "patch":
        return [inserted for _, _, inserted in edit[2]]
    if edit[0] in ("set rule", "set test"):
        return literal_values(edit[2])
    return []


def _stamp_hunks(hunks, change, start):
    stamped = []
    at = start
    for index, removed, inserted in hunks:
        stamped.append((index, removed, stamp(inserted, change, at)))
        at += len(inserted)
    return tuple(stamped)


def _stamp_edit(edit, change, start):
    """Return the edit whose characters are numbered from the start number on."""
    if edit[0] == "write":
        return ("write", edit[1], stamp(edit[2], change, start))
    if edit[0] == "patch":
        return ("patch", edit[1], _stamp_hunks(edit[2], change, start))
    if edit[0] in ("set rule", "set test"):
        return (edit[0], edit[1], stamp_expression(edit[2], change, start))
    return edit


def stamp_edits(edits, change):
    """Return the written edits stamped for the change with this number."""
    stamped = []
    start = 0
    for edit in edits:
        stamped.append(_stamp_edit(edit, change, start))
        start += sum([len(part) for part in _introduced(edit)])
    return tuple(stamped)


def introduced_by(edits):
    """Return the text of the characters that the stamped edits introduce."""
    return tuple([character for edit in edits for text in _introduced(edit) for character in text])


def _check_keys(edits):
    keys = [key_of(edit) for edit in edits]
    for number in range(len(keys)):
        if keys[number] in keys[:number]:
            raise DuplicateKey(keys[number])


def _applies(tree, edit):
    contents = contents_of(tree, key_of(edit))
    if edit[0] == "patch":
        return contents is not None and fits(edit[2], len(contents))
    return contents is not None or not _removes(edit)


def first_inapplicable(tree, edits):
    """Return the key of the first edit that does not apply to the tree, or None."""
    _check_keys(edits)
    for edit in edits:
        if not _applies(tree, edit):
            return key_of(edit)
    return None


def _check_edits(tree, edits):
    key = first_inapplicable(tree, edits)
    if key is not None:
        raise CannotApply(key)


def _contents_after(tree, edit):
    """Return what the tree has under the key of the edit when the edit is applied, or None."""
    if edit[0] == "patch":
        return apply_hunks(contents_of(tree, key_of(edit)), edit[2])
    if edit[0] == "set owners":
        return edit[1]
    return None if _removes(edit) else edit[2]


def apply_edits(tree, edits):
    """Return the tree that results when the stamped edits are applied."""
    _check_edits(tree, edits)
    result = tree
    for edit in edits:
        result = with_contents(result, key_of(edit), _contents_after(result, edit))
    return result


def _inverse_of(tree, edit):
    """Return the edit that restores what the tree has under the key of this one."""
    contents = contents_of(tree, key_of(edit))
    if edit[0] == "patch":
        return ("patch", edit[1], invert_hunks(contents, edit[2]))
    if edit[0] == "set owners":
        return ("set owners", contents)
    kind = KIND_OF[edit[0]]
    if contents is None:
        return (REMOVING[kind], edit[1])
    return (SETTING[kind], edit[1], contents)


def invert_edits(tree, edits):
    """Return the inverse of the stamped edits for the tree."""
    _check_edits(tree, edits)
    return tuple([_inverse_of(tree, edit) for edit in edits])


def _conflict(one, other):
    """Return True if the two edits conflict."""
    if key_of(one) != key_of(other):
        return False
    return one[0] != "patch" or other[0] != "patch" or touch(one[2], other[2])


def _first_conflict(edits, others):
    """Return the key of the first of the edits that conflicts with one of the others, or None."""
    for edit in edits:
        for other in others:
            if _conflict(edit, other):
                return key_of(edit)
    return None


def edits_conflict(first, second):
    """Return True if an edit of the one conflicts with an edit of the other."""
    return _first_conflict(first, second) is not None


def _rebased(edit, over):
    for other in over:
        # As they do not conflict, two edits with the same key are patches of one file.
        if key_of(other) == key_of(edit):
            return ("patch", edit[1], rebase_hunks(edit[2], other[2]))
    return edit


def rebase_edits(edits, over):
    """Return the stamped edits for the tree that results when `over` is applied first."""
    key = _first_conflict(edits, over)
    if key is not None:
        raise EditsConflict(key)
    return tuple([_rebased(edit, over) for edit in edits])
