"""Expressions: the formulas of rules and tests."""

from shiptrace.texts import stamp

# The places of the nested expressions in each form, from the left.
PARTS = {
    "literal": (),
    "file": (),
    "optional file": (),
    "target": (),
    "concat": (1, 2),
    "slice": (1,),
    "find": (1, 2),
    "after": (1, 2),
    "before": (1, 2),
    "replace all": (1, 2, 3),
    "if": (1, 2, 3),
    "concat files": (),
    "dynamic file": (1,),
    "coin": (2, 3),
}


def places_of_parts(expression):
    """Return the places at which expressions are nested directly in this one."""
    return PARTS[expression[0]]


def with_part(expression, place, part):
    """Return the expression with another one nested at this place."""
    return expression[:place] + (part,) + expression[place + 1:]


def subexpressions(expression):
    """Return the list of the subexpressions in reading order."""
    found = [expression]
    for place in places_of_parts(expression):
        found.extend(subexpressions(expression[place]))
    return found


def literal_values(expression):
    """Return the list of what the literals hold, in reading order: strings, texts or lengths."""
    return [part[1] for part in subexpressions(expression) if part[0] == "literal"]


def literals_of(expression):
    """Return the text of the literal characters of a stamped expression."""
    return tuple([character for text in literal_values(expression) for character in text])


def references_of(expression):
    """Return the names of the targets and the numbers of the coins that are referenced."""
    parts = subexpressions(expression)
    names = {part[1]: True for part in parts if part[0] == "target"}
    coins = [part[1] for part in parts if part[0] == "coin"]
    return tuple(names), tuple(sorted(set(coins)))


def _refilled(expression, values, used):
    """Give the literals new values, from values[used] on, in reading order.

    Return the expression, and how many values are used up then.
    """
    if expression[0] == "literal":
        return ("literal", values[used]), used + 1
    filled = expression
    for place in places_of_parts(expression):
        part, used = _refilled(expression[place], values, used)
        filled = with_part(filled, place, part)
    return filled, used


def shape_of(expression):
    """Return the expression with the lengths of its literals in their place."""
    lengths = [len(value) for value in literal_values(expression)]
    return _refilled(expression, lengths, 0)[0]


def fill(shape, text):
    """Return the stamped expression whose literals take their characters from the text."""
    values = []
    at = 0
    for length in literal_values(shape):
        values.append(text[at:at + length])
        at += length
    return _refilled(shape, values, 0)[0]


def stamp_expression(expression, change, start=0):
    """Return the written expression with its literals stamped for the change."""
    signs = "".join(literal_values(expression))
    return fill(shape_of(expression), stamp(signs, change, start))
