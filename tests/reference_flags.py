"""Slow versions of conditions, flags and pages, written from the document's words."""

import itertools
import re

ALWAYS, NEVER = ("always",), ("never",)
FLAGS = ("a", "b", "c", "d", "e", "f")


def slow_holds(condition, on):
    word, *parts = condition
    if word == "flag":
        return parts[0] in on
    values = [slow_holds(part, on) for part in parts]
    table = {"always": [True], "never": [False], "not": [not any(values)], "and": [all(values)], "or": [any(values)]}
    return table[word][0]


def slow_flags_of(*conditions):
    """Find the names in the written form of the conditions."""
    names = re.findall(r"\('flag', '([^']*)'\)", repr(conditions))
    return tuple([name for number, name in enumerate(names) if name not in names[:number]])


def slow_assignments(flags):
    found = []
    for number in range(2 ** len(flags)):
        digits = bin(2 ** len(flags) + number)[3:]
        found.append(tuple([flag for flag, digit in zip(flags, digits) if digit == "1"]))
    return found


def slow_difference(first, second):
    for on in slow_assignments(slow_flags_of(first, second)):
        if slow_holds(first, on) is not slow_holds(second, on):
            return on
    return None


def by_table(word, *parts):
    """Return the first result of the table that applies."""
    results = []
    if word == "not":
        (c,) = parts
        results = [(c == ALWAYS, NEVER), (c == NEVER, ALWAYS), (c[0] == "not", c[-1])]
    if word == "and":
        c, d = parts
        results = [(c == ALWAYS, d), (d == ALWAYS, c), (c == NEVER or d == NEVER, NEVER)]
    if word == "or":
        c, d = parts
        results = [(c == NEVER, d), (d == NEVER, c), (c == ALWAYS or d == ALWAYS, ALWAYS)]
    results.append((True, (word,) + parts))
    return [result for applies, result in results if applies][0]


def slow_fix(condition, flag, value):
    if condition[0] == "flag":
        return {True: ALWAYS, False: NEVER}[value] if condition[1] == flag else condition
    return by_table(condition[0], *[slow_fix(part, flag, value) for part in condition[1:]])


def slow_relevant(condition):
    flags = slow_flags_of(condition)
    relevant = []
    for one, other in itertools.product(slow_assignments(flags), repeat=2):
        if len(set(one) ^ set(other)) == 1 and slow_holds(condition, one) != slow_holds(condition, other):
            relevant.extend(set(one) ^ set(other))
    return tuple(sorted(set(relevant)))


def slow_canonical(condition):
    def expansion(left, on):
        if not left:
            return ALWAYS if slow_holds(condition, on) else NEVER
        x, y = expansion(left[1:], on + [left[0]]), expansion(left[1:], on)
        s = ("flag", left[0])
        return x if x == y else by_table("or", by_table("and", s, x), by_table("and", ("not", s), y))
    return expansion(slow_relevant(condition), [])


def slow_bucket(user, salt):
    return int("".join(reversed(bin(16 + (user + salt) % 16)[3:])), 2)


def dependencies(flags):
    """Return the pairs of flags of which the first depends on the second."""
    names = [flag[0] for flag in flags]
    pairs = []
    for name, clauses, _ in flags:
        for clause in clauses:
            if clause[0] == "when":
                pairs.extend([(name, other) for other in slow_flags_of(clause[1]) if other in names])
    return pairs


def slow_cycle_flag(flags):
    """Return the first flag at which a chain starts that is longer than there are flags."""
    pairs = dependencies(flags)
    starts = [flag[0] for flag in flags]
    for _ in range(len(flags) + 1):
        starts = [name for name in starts if [other for one, other in pairs if one == name and other in starts]]
    return min(starts) if starts else None


def slow_is_on(flags, name, user, held=()):
    """Find the value of a flag by finding the values of those that its conditions mention."""
    if name in dict(held):
        return dict(held)[name]
    for known, clauses, fallback in flags:
        if known == name:
            for clause in clauses:
                if slow_matches(flags, clause, user, held):
                    return clause[-1]
            return fallback
    return False


def slow_matches(flags, clause, user, held):
    if clause[0] == "users":
        return user in clause[1]
    if clause[0] == "buckets":
        return slow_bucket(user, clause[1]) < clause[2]
    mentioned = slow_flags_of(clause[1])
    return slow_holds(clause[1], [name for name in mentioned if slow_is_on(flags, name, user, held)])


def slow_enabled(flags, user, held=()):
    names = sorted(set([flag[0] for flag in flags] + [name for name, _ in held]))
    return tuple([name for name in names if slow_is_on(flags, name, user, held)])


def slow_listed(flags):
    users = [user for _, clauses, _ in flags for clause in clauses if clause[0] == "users" for user in clause[1]]
    return tuple([user for number, user in enumerate(users) if user not in users[:number]])


def slow_unlisted(flags):
    listed = slow_listed(flags)
    return tuple([min([user for user in range(c, 9999, 16) if user not in listed]) for c in range(16)])


def slow_shown(parts, on):
    return tuple([number for number, (condition, _) in enumerate(parts) if slow_holds(condition, on)])


def slow_variants(flags, parts):
    listed, unlisted = slow_listed(flags), slow_unlisted(flags)
    shown = {user: slow_shown(parts, slow_enabled(flags, user)) for user in listed + unlisted}
    variants = []
    for numbers in shown.values():
        variant = (
            numbers,
            [shown[user] for user in unlisted].count(numbers),
            tuple([user for user in listed if shown[user] == numbers]),
        )
        if variant not in variants:
            variants.append(variant)
    return tuple(variants)


def slow_affected(flags, flag, parts):
    for user in slow_listed(flags) + slow_unlisted(flags):
        shown = []
        for value in (True, False):
            numbers = slow_shown(parts, slow_enabled(flags, user, ((flag, value),)))
            shown.append([parts[number][1] for number in numbers])
        if shown[0] != shown[1]:
            return user
    return None


def random_condition(rng, depth=4, names=FLAGS):
    if depth == 1 or rng.randrange(4) == 0:
        return rng.choice([ALWAYS, NEVER] + [("flag", name) for name in names] * 2)
    word = rng.choice(("not", "and", "or"))
    many = 1 if word == "not" else 2
    return (word,) + tuple([random_condition(rng, depth - 1, names) for _ in range(many)])


def random_clause(rng):
    word = rng.choice(("users", "buckets", "when", "when"))
    value = bool(rng.randrange(2))
    if word == "users":
        return (word, tuple([rng.choice((0, 1, 16, 17, 33, 999)) for _ in range(rng.randrange(4))]), value)
    if word == "buckets":
        return (word, rng.choice((0, 1, 7, 100)), rng.randrange(17), value)
    return (word, random_condition(rng, 3), value)


def random_flags(rng, acyclic=True):
    """Return flags; in most of the drawn ones some depend on others."""
    while True:
        flags = []
        for name in FLAGS:
            if rng.randrange(3):
                clauses = tuple([random_clause(rng) for _ in range(rng.randrange(4))])
                flags.append((name, clauses, bool(rng.randrange(2))))
        if not acyclic or slow_cycle_flag(tuple(flags)) is None:
            return tuple(flags)


def random_parts(rng, targets=("r", "s", "t")):
    return tuple([(random_condition(rng, 3), rng.choice(targets)) for _ in range(rng.randrange(5))])
