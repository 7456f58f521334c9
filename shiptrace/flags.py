"""Flags: tuples of triples `(name, clauses, fallback)`, sorted by name."""

from shiptrace.chains import first_endless, ranks_of
from shiptrace.conditions import flags_of_all, holds
from shiptrace.errors import FlagCycle
from shiptrace.rings import PLACES, bucket_of
from shiptrace.texts import each_once


def with_flag(flags, flag):
    """Return the flags with this one, in the place of one with the same name."""
    before = [other for other in flags if other[0] < flag[0]]
    behind = [other for other in flags if other[0] > flag[0]]
    return tuple(before + [flag] + behind)


def without_flag(flags, name):
    """Return the flags without the one with this name."""
    return tuple([flag for flag in flags if flag[0] != name])


def _links_of(flags):
    """Return for each flag the list of the flags on which it depends."""
    links = {}
    names = [name for name, _, _ in flags]
    for name, clauses, _ in flags:
        mentioned = flags_of_all([clause[1] for clause in clauses if clause[0] == "when"])
        links[name] = [other for other in mentioned if other in names]
    return links


def first_cyclic_flag(flags):
    """Return the name of the cycle flag, or None."""
    return first_endless(_links_of(flags))


def check_cycles(flags):
    """Raise FlagCycle if there is a flag cycle."""
    name = first_cyclic_flag(flags)
    if name is not None:
        raise FlagCycle(name)


def listed_users(flags):
    """Return the users that stand in clauses, by their first place."""
    clauses = [clause for _, clauses, _ in flags for clause in clauses]
    return each_once([user for clause in clauses if clause[0] == "users" for user in clause[1]])


def unlisted_representatives(flags):
    """Return for each cohort the least of its users that stands in no clause."""
    listed = listed_users(flags)
    found = []
    for cohort in range(PLACES):
        user = cohort
        while user in listed:
            user += PLACES
        found.append(user)
    return tuple(found)


def representatives_of(flags):
    """Return the listed users, and then the unlisted representatives."""
    return listed_users(flags) + unlisted_representatives(flags)


def _matches(clause, user, on):
    """Return True if the clause matches the user, for whom these flags are on."""
    if clause[0] == "users":
        return user in clause[1]
    if clause[0] == "buckets":
        return bucket_of(user, clause[1]) < clause[2]
    return holds(clause[1], on)


def _value_of(flag, user, on):
    _, clauses, fallback = flag
    for clause in clauses:
        if _matches(clause, user, on):
            return clause[-1]
    return fallback


def ordered_flags(flags):
    """Return the list of the flags, each one behind those on which it depends; raise FlagCycle."""
    check_cycles(flags)
    ranks = ranks_of(_links_of(flags))
    return sorted(flags, key=lambda flag: ranks[flag[0]])


def flags_on(ordered, user):
    """Return the names of the flags, which are ordered in this way, that are on for the user."""
    on = ()
    for flag in ordered:
        if _value_of(flag, user, on):
            on = on + (flag[0],)
    return on


def enabled_flags(flags, user):
    """Return the names of the flags that are on for the user, in ascending order."""
    return tuple(sorted(flags_on(ordered_flags(flags), user)))


def distinguishing_user(flags, first, second):
    """Return the first representative for whom exactly one of the conditions holds, or None."""
    ordered = ordered_flags(flags)
    for user in representatives_of(flags):
        on = flags_on(ordered, user)
        if holds(first, on) != holds(second, on):
            return user
    return None


def audience_of(flags, condition):
    """Return for how many of the unlisted representatives the condition holds."""
    ordered = ordered_flags(flags)
    users = unlisted_representatives(flags)
    return len([user for user in users if holds(condition, flags_on(ordered, user))])
