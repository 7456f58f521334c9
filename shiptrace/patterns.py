"""Patterns of names and keys, with the wildcards * and **."""


def tokens_of(pattern):
    """Return the tokens of the pattern, a tuple of strings."""
    tokens = []
    at = 0
    while at < len(pattern):
        token = "**" if pattern[at:at + 2] == "**" else pattern[at]
        tokens.append(token)
        at += len(token)
    return tuple(tokens)


def _is_star(token):
    return token in ("*", "**")


def _admits(star, sign):
    """Return True if a part for the star, one or two, may contain the sign."""
    return star == "**" or sign != "/"


def _ends_behind(token, string, ends):
    """Return for each beginning of the string whether the token can end there.

    `ends` tells the same of the tokens before this one. One pass for each token
    takes the place of trying all splits.
    """
    if not _is_star(token):
        return [False] + [ends[k] and string[k] == token for k in range(len(string))]
    found = [ends[0]]
    for k in range(len(string)):
        found.append(ends[k + 1] or (found[k] and _admits(token, string[k])))
    return found


def matches(pattern, string):
    """Return True if the string matches the pattern."""
    ends = [k == 0 for k in range(len(string) + 1)]
    for token in tokens_of(pattern):
        ends = _ends_behind(token, string, ends)
    return ends[len(string)]


def deciding(patterns, string):
    """Return the number of the last pattern that the string matches, or None."""
    for number in range(len(patterns) - 1, -1, -1):
        if matches(patterns[number], string):
            return number
    return None


def _least(strings):
    """Return the least of the strings in shortlex order, None standing for no string."""
    known = [string for string in strings if string is not None]
    return min(known, key=lambda one: (len(one), one), default=None)


def _options(first, second, i, j, least):
    """Return candidates for the least string that the tokens from i and from j on have in common.

    `least` holds the least strings for all later tokens. A sign that both sides
    take for a star is never needed: without it the string is shorter.
    """
    a = first[i] if i < len(first) else ""
    b = second[j] if j < len(second) else ""
    found = []
    if _is_star(a):
        found.append(least[i + 1, j])
    if _is_star(b):
        found.append(least[i, j + 1])
    if a and a == b:
        found.append(_led(a, least[i + 1, j + 1]))
    if a and not _is_star(a) and _is_star(b) and _admits(b, a):
        found.append(_led(a, least[i + 1, j]))
    if b and not _is_star(b) and _is_star(a) and _admits(a, b):
        found.append(_led(b, least[i, j + 1]))
    return found


def _led(sign, string):
    """Return the string with the sign before it; None, for no string, stays None."""
    return None if string is None else sign + string


def common_match(first, second):
    """Return the least string in shortlex order that matches both patterns, or None."""
    a = tokens_of(first)
    b = tokens_of(second)
    least = {}
    for i in range(len(a), -1, -1):
        for j in range(len(b), -1, -1):
            if i == len(a) and j == len(b):
                least[i, j] = ""
            else:
                least[i, j] = _least(_options(a, b, i, j, least))
    return least[0, 0]
