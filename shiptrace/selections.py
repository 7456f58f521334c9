"""Selections from a tuple."""


def selections_of(row, length):
    """Return the list of the selections of this length from the tuple, the first one first."""
    if length == 0:
        return [()]
    found = []
    for number in range(len(row)):
        behind = selections_of(row[number + 1:], length - 1)
        found.extend([(row[number],) + rest for rest in behind])
    return found
