"""Deltas: how to produce a text from an old one by copying and inserting characters.

An operation is `("copy", index, length)` or `("insert", character)`.
"""


def _places_of(text):
    """Return for each character of the text the list of its indexes, in ascending order."""
    places = {}
    for index in range(len(text)):
        places.setdefault(text[index], []).append(index)
    return places


def _common_length(old, index, new, start):
    """Return how many characters of the two texts are equal, from these places on."""
    length = 0
    most = min(len(old) - index, len(new) - start)
    while length < most and old[index + length] == new[start + length]:
        length += 1
    return length


def _longest_copy(old, indexes, new, start):
    """Return (index, length) of the longest copy from one of the indexes, of the first such one."""
    best = (0, 0)
    for index in indexes:
        length = _common_length(old, index, new, start)
        if length > best[1]:
            best = (index, length)
    return best


def encode_delta(old, new):
    """Return the delta of the new text with respect to the old one."""
    places = _places_of(old)
    delta = []
    done = 0
    while done < len(new):
        index, length = _longest_copy(old, places.get(new[done], []), new, done)
        if length > 0:
            delta.append(("copy", index, length))
            done += length
        else:
            delta.append(("insert", new[done]))
            done += 1
    return tuple(delta)


def apply_delta(old, delta):
    """Return the text that the delta produces from the old text."""
    text = []
    for operation in delta:
        if operation[0] == "copy":
            _, index, length = operation
            text.extend(old[index:index + length])
        else:
            text.append(operation[1])
    return tuple(text)


def _operations_between(delta, start, end):
    """Return the list of the operations that produce the characters from start on and before end."""
    found = []
    done = 0
    for operation in delta:
        if operation[0] == "copy":
            _, index, length = operation
            low = max(start, done)
            high = min(end, done + length)
            if low < high:
                found.append(("copy", index + low - done, high - low))
            done += length
        else:
            if start <= done < end:
                found.append(operation)
            done += 1
    return found


def compose_deltas(first, second):
    """Return the delta that does at once what the two do one after the other."""
    composed = []
    for operation in second:
        if operation[0] == "copy":
            _, index, length = operation
            composed.extend(_operations_between(first, index, index + length))
        else:
            composed.append(operation)
    return tuple(composed)
