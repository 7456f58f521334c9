"""Rings of users, and the buckets that decide which user is in which ring."""

# So many buckets and cohorts there are.
PLACES = 16


def cohort_of(user):
    """Return the cohort of the user."""
    return user % PLACES


def bucket_of(user, salt):
    """Return the bucket of the user under the salt: four binary digits in reverse order."""
    number = (user + salt) % PLACES
    bucket = 0
    for _ in range(4):
        bucket = bucket * 2 + number % 2
        number = number // 2
    return bucket


def ring_of(bounds, user, salt):
    """Return the number of the first bound that is greater than the user's bucket."""
    bucket = bucket_of(user, salt)
    return len([bound for bound in bounds if bound <= bucket])


def users_below(salt, limit, first, count):
    """Return those of the users from the first one on whose bucket is less than the limit."""
    return tuple([user for user in range(first, first + count) if bucket_of(user, salt) < limit])


def next_salt(bounds, user, salt, most):
    """Return the least salt from this one on under which the user's ring is at most `most`."""
    # Of 16 salts in a row, one gives the bucket 0, which is in ring 0.
    found = salt
    while ring_of(bounds, user, found) > most:
        found += 1
    return found
