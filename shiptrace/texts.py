"""Texts: tuples of characters `(sign, change, index)`."""


def stamp(string, change, start=0):
    """Return the text of the string whose characters get the origins (change, start) and on."""
    return tuple([(string[k], change, start + k) for k in range(len(string))])


def signs_of(text):
    """Return the string of the signs of the text."""
    return "".join([character[0] for character in text])


def find(text, wanted):
    """Search for a text; return (index, before, match, after, read)."""
    index = signs_of(text).find(signs_of(wanted))
    if index < 0:
        return None, text, (), (), wanted + text
    end = index + len(wanted)
    return index, text[:index], text[index:end], text[end:], wanted + text[:end]


def replace_all(text, wanted, new):
    """Return the text with all matches of `wanted` replaced, and the text of what this reads."""
    # The empty text occurs everywhere, so the loop below would never end.
    if not wanted:
        return text, ()
    signs = signs_of(text)
    sought = signs_of(wanted)
    result = []
    end = 0
    index = signs.find(sought)
    while index >= 0:
        result.extend(text[end:index])
        result.extend(new)
        end = index + len(wanted)
        index = signs.find(sought, end)
    result.extend(text[end:])
    return tuple(result), wanted + text


def origin_runs(text):
    """Return the runs (change, start, length) of the origins of the text."""
    runs = []
    for _, change, index in text:
        if runs and runs[-1][0] == change and runs[-1][1] + runs[-1][2] == index:
            runs[-1] = (change, runs[-1][1], runs[-1][2] + 1)
        else:
            runs.append((change, index, 1))
    return tuple(runs)


def each_once(values):
    """Return the values without repetitions: of equal ones only the first one stays."""
    return tuple({value: True for value in values})
