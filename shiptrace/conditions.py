"""Conditions over flags: when they hold, where they differ, and simpler ones in their place."""

from shiptrace.errors import TooManyFlags
from shiptrace.texts import each_once

ALWAYS = ("always",)
NEVER = ("never",)

# Of how many flags all assignments are tried.
MOST_FLAGS = 5


def holds(condition, on):
    """Return True if the condition holds when exactly the flags with these names are on."""
    form = condition[0]
    if form == "flag":
        return condition[1] in on
    if form == "not":
        return not holds(condition[1], on)
    if form == "and":
        return holds(condition[1], on) and holds(condition[2], on)
    if form == "or":
        return holds(condition[1], on) or holds(condition[2], on)
    return form == "always"


def _all_mentions(condition):
    """Return the list of the names of flags in the condition, from the left, with repetitions."""
    if condition[0] == "flag":
        return [condition[1]]
    return [name for part in condition[1:] for name in _all_mentions(part)]


def flags_of_all(conditions):
    """Return the names of the flags that the conditions mention, by their first mention."""
    return each_once([name for condition in conditions for name in _all_mentions(condition)])


def flags_of(condition):
    """Return the names of the flags that the condition mentions, by their first mention."""
    return flags_of_all([condition])


def _few_flags_of(conditions):
    """Return the names of the flags that the conditions mention; raise TooManyFlags."""
    flags = flags_of_all(conditions)
    if len(flags) > MOST_FLAGS:
        raise TooManyFlags(len(flags))
    return flags


def _assignments_of(flags):
    """Return the list of the assignments of the flags, in order."""
    if not flags:
        return [()]
    behind = _assignments_of(flags[1:])
    return behind + [(flags[0],) + on for on in behind]


def first_difference(first, second):
    """Return the first assignment in which exactly one of the two conditions holds, or None."""
    for on in _assignments_of(_few_flags_of([first, second])):
        if holds(first, on) != holds(second, on):
            return on
    return None


def _negated(part):
    """Return the result for "not", of the result for its part."""
    if part == ALWAYS:
        return NEVER
    if part == NEVER:
        return ALWAYS
    return part[1] if part[0] == "not" else ("not", part)


def _both(first, second):
    """Return the result for "and", of the results for its parts."""
    if first == ALWAYS:
        return second
    if second == ALWAYS:
        return first
    return NEVER if NEVER in (first, second) else ("and", first, second)


def _either(first, second):
    """Return the result for "or", of the results for its parts."""
    if first == NEVER:
        return second
    if second == NEVER:
        return first
    return ALWAYS if ALWAYS in (first, second) else ("or", first, second)


def fix_in_condition(condition, flag, value):
    """Return the condition with the flag fixed on if the value is True, off if it is False."""
    form = condition[0]
    if form == "flag" and condition[1] == flag:
        return ALWAYS if value else NEVER
    if form in ("always", "never", "flag"):
        return condition
    parts = [fix_in_condition(part, flag, value) for part in condition[1:]]
    if form == "not":
        return _negated(parts[0])
    return _both(parts[0], parts[1]) if form == "and" else _either(parts[0], parts[1])


def _is_relevant(condition, flag, flags):
    """Return True if switching this one of the flags alone can change whether the condition holds."""
    others = tuple([name for name in flags if name != flag])
    return any([holds(condition, on) != holds(condition, on + (flag,)) for on in _assignments_of(others)])


def relevant_flags(condition):
    """Return the names of the flags that are relevant for the condition, in ascending order."""
    flags = _few_flags_of([condition])
    return tuple([flag for flag in sorted(flags) if _is_relevant(condition, flag, flags)])


def _expanded(condition, flags, on):
    """Return the expansion by the flags, where these others were taken as on."""
    if not flags:
        return ALWAYS if holds(condition, on) else NEVER
    flag = ("flag", flags[0])
    when_on = _expanded(condition, flags[1:], on + (flags[0],))
    when_off = _expanded(condition, flags[1:], on)
    if when_on == when_off:
        return when_on
    return _either(_both(flag, when_on), _both(("not", flag), when_off))


def canonical_condition(condition):
    """Return the canonical condition of the condition."""
    return _expanded(condition, relevant_flags(condition), ())
