"""Rewriting rules, which make stamped expressions simpler.

Each rule is a function that returns what the expression becomes, or None if the
rule does not apply to it.
"""

from shiptrace.expressions import places_of_parts, with_part

EMPTY_LITERAL = ("literal", ())
LONGEST_LITERAL = 120


def _drop_empty_first(expression):
    if expression[0] == "concat" and expression[1] == EMPTY_LITERAL:
        return expression[2]
    return None


def _drop_empty_second(expression):
    if expression[0] == "concat" and expression[2] == EMPTY_LITERAL:
        return expression[1]
    return None


def _join_literals(expression):
    if expression[0] != "concat" or expression[1][0] != "literal" or expression[2][0] != "literal":
        return None
    text = expression[1][1] + expression[2][1]
    return ("literal", text) if len(text) <= LONGEST_LITERAL else None


def _slice_literal(expression):
    if expression[0] == "slice" and expression[1][0] == "literal":
        return ("literal", expression[1][1][expression[2]:expression[3]])
    return None


def _join_slices(expression):
    if expression[0] != "slice" or expression[1][0] != "slice":
        return None
    _, (_, inner, begin, end), start, stop = expression
    return ("slice", inner, begin + start, min(end, begin + stop))


def _reset_empty_slice(expression):
    if expression[0] == "slice" and expression[2] != 0 and expression[3] <= expression[2]:
        return ("slice", expression[1], 0, 0)
    return None


def _find_empty(expression):
    if expression[0] in ("find", "before") and expression[2] == EMPTY_LITERAL:
        return ("slice", expression[1], 0, 0)
    return None


def _after_empty(expression):
    if expression[0] == "after" and expression[2] == EMPTY_LITERAL:
        return expression[1]
    return None


def _replace_empty(expression):
    if expression[0] != "replace all" or expression[2] != EMPTY_LITERAL:
        return None
    # What is inserted must be a literal: another expression might evaluate to an error.
    return expression[1] if expression[3][0] == "literal" else None


def _decide_literal(expression):
    if expression[0] != "if" or expression[1][0] != "literal":
        return None
    return expression[2] if expression[1][1] else expression[3]


# In the order of their numbers, 1 to 10.
RULES = (
    _drop_empty_first,
    _drop_empty_second,
    _join_literals,
    _slice_literal,
    _join_slices,
    _reset_empty_slice,
    _find_empty,
    _after_empty,
    _replace_empty,
    _decide_literal,
)


def _rewritings_at_top(expression):
    """Return the list of what the rules make of the expression itself."""
    found = []
    for rule in RULES:
        result = rule(expression)
        if result is not None:
            found.append(result)
    return found


def rewritings(expression):
    """Return the rewritings of a stamped expression, a tuple."""
    found = _rewritings_at_top(expression)
    for place in places_of_parts(expression):
        for part in rewritings(expression[place]):
            found.append(with_part(expression, place, part))
    return tuple(found)


def normalize(expression):
    """Return the normal form of a stamped expression."""
    following = rewritings(expression)
    while following:
        expression = following[0]
        following = rewritings(expression)
    return expression
