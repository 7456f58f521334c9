"""Traces: what an expression has read, and where the characters of its text come from.

An address tells where a character stands: `("literal", i)`, `("file", path, i)` or
`("target", name, i)`.
"""

from shiptrace.evaluation import evaluate, read_of_file, read_of_listing, read_of_target, result_in
from shiptrace.expressions import fill, literals_of, shape_of
from shiptrace.trees import entry_of


def _addressed(text, place):
    """Return the text with the addresses of its characters, which stand in this place."""
    return tuple([(text[k][0], place + (k,)) for k in range(len(text))])


def _addressed_result(name, result):
    kind, value = result
    return (kind, _addressed(value, ("target", name))) if kind == "text" else result


def _addressed_environment(environment):
    files, targets, coins = environment
    return (
        tuple([(path, _addressed(text, ("file", path))) for path, text in files]),
        tuple([(name, _addressed_result(name, result)) for name, result in targets]),
        coins,
    )


def _traced_read(read):
    if read[0] != "char":
        return read
    sign, address = read[1]
    return ("char", address, sign)


def trace_of(expression, environment):
    """Return the trace of the stamped expression in the environment."""
    # Evaluating passes on origins without a look at them, and so it does with addresses in
    # their place.
    literals = _addressed(literals_of(expression), ("literal",))
    addressed = fill(shape_of(expression), literals)
    (kind, value), reads = evaluate(addressed, _addressed_environment(environment))
    if kind == "text":
        output = ("copy", tuple([address for _, address in value]))
    else:
        output = ("error", value)
    return tuple([_traced_read(read) for read in reads]), output


def _text_at(address, literals, environment):
    """Return the text in which the address tells a place, or None."""
    files, targets, _ = environment
    if address[0] == "literal":
        return literals
    if address[0] == "file":
        return entry_of(files, address[1])
    kind, value = result_in(targets, address[1])
    return value if kind == "text" else None


def _character_at(address, literals, environment):
    """Return the character to which the address refers, or None."""
    text = _text_at(address, literals, environment)
    number = address[-1]
    return None if text is None or number >= len(text) else text[number]


def _true_read(read, literals, environment):
    """Return the read that is true in the place of this one, or None.

    It is true for an expression with these literal characters, in the environment.
    There is none if it should tell the sign of a character that does not exist.
    """
    files, targets, coins = environment
    if read[0] in ("file", "missing"):
        return read_of_file(files, read[1])
    if read[0] == "list":
        return read_of_listing(files, read[1])
    if read[0] in ("target", "failed"):
        return read_of_target(read[1], result_in(targets, read[1]))
    if read[0] == "coin":
        return ("coin", read[1], coins[read[1]])
    character = _character_at(read[1], literals, environment)
    return None if character is None else ("char", read[1], character[0])


def first_untrue(trace, expression, environment):
    """Return (index, recorded, current) for the first read that is not true, or None.

    The current read is the one that is true in the place of the recorded one.
    """
    reads, _ = trace
    literals = literals_of(expression)
    for index in range(len(reads)):
        current = _true_read(reads[index], literals, environment)
        if current != reads[index]:
            return index, reads[index], current
    return None


def is_valid(trace, expression, environment):
    """Return True if each read of the trace is true for the expression in the environment."""
    return first_untrue(trace, expression, environment) is None


def replay(trace, expression, environment):
    """Return the result of replaying the trace, or None if there is none."""
    if not is_valid(trace, expression, environment):
        return None
    _, (kind, value) = trace
    if kind == "error":
        return (kind, value)
    literals = literals_of(expression)
    text = tuple([_character_at(address, literals, environment) for address in value])
    return None if None in text else ("text", text)
