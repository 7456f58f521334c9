"""What several test files use."""


def is_plain(value):
    """Return True if the value consists of tuples, strings, integers and None."""
    if isinstance(value, tuple):
        return all([is_plain(part) for part in value])
    return value is None or isinstance(value, str) or type(value) is int


def stamped(string, change=0, start=0):
    """Stamp a string without the help of the program."""
    return tuple([(sign, change, start + number) for number, sign in enumerate(string)])


def literal(string, change=0, start=0):
    return ("literal", stamped(string, change, start))


def signs(text):
    return "".join([character[0] for character in text])


def strings_over(alphabet, longest):
    """Return all strings over the alphabet up to a length, in shortlex order."""
    found = [""]
    last = [""]
    for _ in range(longest):
        last = [string + sign for string in last for sign in sorted(alphabet)]
        found.extend(last)
    return found
