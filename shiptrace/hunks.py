"""Hunks: triples (index, removed, inserted) that change a text."""

from shiptrace.errors import InvalidHunks, NoSuchCharacter


def _end_of(hunk):
    return hunk[0] + hunk[1]


def _growth(hunks):
    """Return by how much the hunks together make a text longer."""
    return sum([len(inserted) - removed for _, removed, inserted in hunks])


def _moved(index, hunks):
    """Return the index plus the growth of those of the hunks that end before it."""
    return index + _growth([hunk for hunk in hunks if _end_of(hunk) < index])


def fits(hunks, size):
    """Return True if the hunks fit a text of this length."""
    for number in range(len(hunks)):
        index, removed, inserted = hunks[number]
        if index + removed > size or (removed == 0 and len(inserted) == 0):
            return False
        if number > 0 and index <= _end_of(hunks[number - 1]):
            return False
    return True


def _check_fit(hunks, size):
    if not fits(hunks, size):
        raise InvalidHunks("the hunks do not fit the length of the text")


def apply_hunks(text, hunks):
    """Return the text that results when the stamped hunks are applied."""
    _check_fit(hunks, len(text))
    result = []
    end = 0
    for index, removed, inserted in hunks:
        result.extend(text[end:index])
        result.extend(inserted)
        end = index + removed
    result.extend(text[end:])
    return tuple(result)


def touch(first, second):
    """Return True if a hunk of the one touches a hunk of the other."""
    for one in first:
        for other in second:
            if one[0] <= _end_of(other) and other[0] <= _end_of(one):
                return True
    return False


def rebase_hunks(hunks, over):
    """Return the hunks for the text that results when `over` is applied first."""
    return tuple([(_moved(index, over), removed, inserted) for index, removed, inserted in hunks])


def merge_hunks(first, second):
    """Return the hunks of both tuples in ascending order of their indices."""
    return tuple(sorted(first + second, key=lambda hunk: hunk[0]))


def invert_hunks(text, hunks):
    """Return the hunks that undo the stamped hunks, which are applied to the text."""
    _check_fit(hunks, len(text))
    inverse = []
    for hunk in hunks:
        index, _, inserted = hunk
        inverse.append((_moved(index, hunks), len(inserted), text[index:_end_of(hunk)]))
    return tuple(inverse)


# The composition is found with pieces (source, begin, end), which stand for the
# characters from begin on and before end: of the original text if the source is
# None, otherwise of the inserted text that is the source. So the original text
# itself, of which only the length is known, is not needed.

def _cut(pieces, begin, end):
    """Return the pieces of the characters from begin on and before end."""
    found = []
    at = 0
    for source, first, last in pieces:
        low = max(begin - at, 0)
        high = min(end - at, last - first)
        if low < high:
            found.append((source, first + low, first + high))
        at += last - first
    return found


def _spliced(pieces, size, hunks):
    """Return the pieces that result when the hunks are applied to pieces of this length."""
    found = []
    end = 0
    for index, removed, inserted in hunks:
        found.extend(_cut(pieces, end, index))
        found.append((inserted, 0, len(inserted)))
        end = index + removed
    found.extend(_cut(pieces, end, size))
    return found


def compose_hunks(size, first, second):
    """Return hunks that do at once what the first ones and then the second ones do."""
    _check_fit(first, size)
    middle = size + _growth(first)
    _check_fit(second, middle)
    pieces = _spliced(_spliced([(None, 0, size)], size, first), middle, second)
    composed = []
    behind = 0
    text = ()
    # An empty piece at the end of the original text closes the last gap.
    for source, begin, end in pieces + [(None, size, size)]:
        if source is not None:
            text = text + source[begin:end]
            continue
        if behind < begin or text:
            composed.append((behind, begin - behind, text))
        behind = end
        text = ()
    return tuple(composed)


def index_before(size, hunks, index):
    """Return which index a character of the result had before the hunks, None if inserted."""
    _check_fit(hunks, size)
    if index >= size + _growth(hunks):
        raise NoSuchCharacter("the result has no character with this number")
    growth = 0
    for begin, removed, inserted in hunks:
        if index < begin + growth:
            return index - growth
        if index < begin + growth + len(inserted):
            return None
        growth = growth + len(inserted) - removed
    return index - growth
