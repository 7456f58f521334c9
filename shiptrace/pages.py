"""Pages: which of their parts are shown to whom."""

from shiptrace.conditions import NEVER, fix_in_condition, holds
from shiptrace.flags import check_cycles, flags_on, listed_users, ordered_flags, representatives_of, with_flag


def shown_parts(parts, on):
    """Return the numbers of the parts that are shown when exactly these flags are on."""
    return tuple([number for number in range(len(parts)) if holds(parts[number][0], on)])


def fix_flag(parts, flag, value):
    """Return the parts with the flag fixed on if the value is True, off if it is False."""
    fixed = [(fix_in_condition(condition, flag, value), target) for condition, target in parts]
    return tuple([part for part in fixed if part[0] != NEVER])


def variants_of(flags, parts):
    """Return the variants of a page with these parts, triples (numbers, audience, users)."""
    shown = {}
    ordered = ordered_flags(flags)
    for user in representatives_of(flags):
        numbers = shown_parts(parts, flags_on(ordered, user))
        shown.setdefault(numbers, []).append(user)
    listed = listed_users(flags)
    variants = []
    for numbers, users in shown.items():
        known = tuple([user for user in users if user in listed])
        variants.append((numbers, len(users) - len(known), known))
    return tuple(variants)


def _targets_shown(ordered, parts, user):
    return [parts[number][1] for number in shown_parts(parts, flags_on(ordered, user))]


def affected_user(flags, flag, parts):
    """Return the first representative for whom the flag affects the page, or None."""
    check_cycles(flags)
    # A flag without clauses has the value of its fallback, so it is held on or off.
    held_on = ordered_flags(with_flag(flags, (flag, (), True)))
    held_off = ordered_flags(with_flag(flags, (flag, (), False)))
    for user in representatives_of(flags):
        if _targets_shown(held_on, parts, user) != _targets_shown(held_off, parts, user):
            return user
    return None
