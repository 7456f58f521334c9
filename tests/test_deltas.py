"""Deltas: points 182 and 183."""

import random
import unittest

from shiptrace.deltas import apply_delta, compose_deltas, encode_delta
from support import is_plain, stamped

A, B, C, D = stamped("abcd", 1)
OLD = (A, B, C)
X, Y = stamped("xy", 9)


def text_of(rng, alphabet, longest):
    return tuple([rng.choice(alphabet) for _ in range(rng.randrange(longest + 1))])


def stands_at(part, text):
    """Return the least index at which the part stands in the text, or None."""
    for index in range(len(text) - len(part) + 1):
        if text[index:index + len(part)] == part:
            return index
    return None


def slow_encode(old, new):
    if not new:
        return ()
    for length in range(len(new), 0, -1):
        index = stands_at(new[:length], old)
        if index is not None:
            return (("copy", index, length),) + slow_encode(old, new[length:])
    return (("insert", new[0]),) + slow_encode(old, new[1:])


def slow_compose(first, second):
    """Compose by telling of each produced character which operation gives it, and from where."""
    given = []
    for number, operation in enumerate(first):
        if operation[0] == "insert":
            given.append((number, operation[1], None))
        else:
            given.extend([(number, None, operation[1] + k) for k in range(operation[2])])
    composed = []
    for operation in second:
        if operation[0] == "insert":
            composed.append(operation)
            continue
        part = given[operation[1]:operation[1] + operation[2]]
        for number in sorted(set([one[0] for one in part])):
            mine = [one for one in part if one[0] == number]
            if mine[0][2] is None:
                composed.append(("insert", mine[0][1]))
            else:
                composed.append(("copy", mine[0][2], len(mine)))
    return tuple(composed)


def random_delta(rng, old):
    """Return any delta with respect to the old text, also one that no encoding gives."""
    delta = []
    for _ in range(rng.randrange(6)):
        if old and rng.randrange(3):
            index = rng.randrange(len(old))
            delta.append(("copy", index, rng.randrange(1, len(old) - index + 1)))
        else:
            delta.append(("insert", rng.choice((A, B, C, X, Y))))
    return tuple(delta)


class EncodeTest(unittest.TestCase):

    def check(self, old, new, delta):
        self.assertEqual(encode_delta(old, new), delta)
        self.assertEqual(slow_encode(old, new), delta)
        self.assertEqual(apply_delta(old, delta), new)
        self.assertTrue(is_plain(delta))

    def test_empty_texts(self):
        self.check((), (), ())
        self.check(OLD, (), ())
        self.check((), (X, A, X), (("insert", X), ("insert", A), ("insert", X)))

    def test_the_same_text(self):
        self.check(OLD, OLD, (("copy", 0, 3),))

    def test_copies_and_insertions(self):
        self.check(OLD, (X, B, C, Y, A), (("insert", X), ("copy", 1, 2), ("insert", Y), ("copy", 0, 1)))
        self.check(OLD, (C, B, A), (("copy", 2, 1), ("copy", 1, 1), ("copy", 0, 1)))

    def test_the_same_sign_with_another_origin(self):
        other = ("b", 1, 7)
        self.check(OLD, (A, other, C), (("copy", 0, 1), ("insert", other), ("copy", 2, 1)))
        self.check(OLD, (("a", 2, 0), ("q", 1, 1)), (("insert", ("a", 2, 0)), ("insert", ("q", 1, 1))))

    def test_the_longest_beginning(self):
        self.check((A, B, X, A, B, C, X), (A, B, C, Y), (("copy", 3, 3), ("insert", Y)))
        self.check((A, X, A, B, X, A, B, C), (A, B, A), (("copy", 2, 2), ("copy", 0, 1)))

    def test_the_least_index(self):
        self.check((C, A, B, X, A, B, Y), (A, B, Y, A, B, D), (("copy", 4, 3), ("copy", 1, 2), ("insert", D)))
        self.check((A, A, A), (A, A), (("copy", 0, 2),))
        self.check((A, A, A), (A,) * 7, (("copy", 0, 3), ("copy", 0, 3), ("copy", 0, 1)))

    def test_a_beginning_and_not_any_part(self):
        # A longer part of the new text that begins later has no influence.
        self.check((A, B, X, B, C, D), (A, B, C, D), (("copy", 0, 2), ("copy", 4, 2)))

    def test_a_copy_that_ends_with_the_old_text(self):
        self.check((A, B), (B, B, A), (("copy", 1, 1), ("copy", 1, 1), ("copy", 0, 1)))
        self.assertEqual(encode_delta(old=(A, B), new=(B, X)), (("copy", 1, 1), ("insert", X)))


class ApplyTest(unittest.TestCase):

    def test_any_delta(self):
        self.assertEqual(apply_delta(OLD, ()), ())
        self.assertEqual(apply_delta((), (("insert", X),)), (X,))
        self.assertEqual(apply_delta(OLD, (("copy", 2, 1), ("insert", C), ("copy", 0, 2), ("copy", 0, 2))),
                         (C, C, A, B, A, B))
        self.assertEqual(apply_delta(old=OLD, delta=(("copy", 1, 2),)), (B, C))


class ComposeTest(unittest.TestCase):

    FIRST = (("copy", 1, 2), ("insert", X), ("copy", 0, 3), ("insert", Y), ("insert", X))

    def check(self, first, second, composed):
        self.assertEqual(compose_deltas(first, second), composed)
        self.assertEqual(slow_compose(first, second), composed)
        middle = apply_delta(OLD, first)
        self.assertEqual(apply_delta(OLD, composed), apply_delta(middle, second))
        self.assertTrue(is_plain(composed))

    def test_empty_deltas(self):
        self.check((), (), ())
        self.check(self.FIRST, (), ())
        self.check((), (("insert", D), ("insert", X)), (("insert", D), ("insert", X)))

    def test_a_copy_over_a_part_of_one_operation(self):
        self.check(self.FIRST, (("copy", 0, 1),), (("copy", 1, 1),))
        self.check(self.FIRST, (("copy", 1, 1),), (("copy", 2, 1),))
        self.check(self.FIRST, (("copy", 4, 1),), (("copy", 1, 1),))
        self.check(self.FIRST, (("copy", 3, 2),), (("copy", 0, 2),))
        self.check(self.FIRST, (("copy", 4, 2),), (("copy", 1, 2),))
        self.check(self.FIRST, (("copy", 2, 1),), (("insert", X),))
        self.check(self.FIRST, (("copy", 7, 1),), (("insert", X),))

    def test_a_copy_over_several_operations(self):
        self.check(self.FIRST, (("copy", 0, 8),), self.FIRST)
        self.check(self.FIRST, (("copy", 1, 3),), (("copy", 2, 1), ("insert", X), ("copy", 0, 1)))
        self.check(self.FIRST, (("copy", 5, 3),), (("copy", 2, 1), ("insert", Y), ("insert", X)))
        self.check((("copy", 0, 2), ("copy", 2, 1)), (("copy", 0, 3),), (("copy", 0, 2), ("copy", 2, 1)))

    def test_insertions_of_the_second_delta(self):
        self.check(self.FIRST, (("insert", D), ("copy", 1, 2), ("insert", D), ("copy", 0, 1)),
                   (("insert", D), ("copy", 2, 1), ("insert", X), ("insert", D), ("copy", 1, 1)))

    def test_keywords(self):
        self.assertEqual(compose_deltas(first=(("insert", X),), second=(("copy", 0, 1),)), (("insert", X),))


class RandomDeltasTest(unittest.TestCase):

    def test_encoding(self):
        rng = random.Random(182)
        alphabet = (A, B, X, ("a", 1, 5), ("b", 1, 0))
        for _ in range(1500):
            old, new = text_of(rng, alphabet, 10), text_of(rng, alphabet, 10)
            self.assertEqual(encode_delta(old, new), slow_encode(old, new))
            self.assertEqual(apply_delta(old, encode_delta(old, new)), new)

    def test_composing(self):
        rng = random.Random(183)
        for _ in range(1500):
            old = text_of(rng, (A, B, C, D), 6)
            first = random_delta(rng, old)
            middle = apply_delta(old, first)
            second = random_delta(rng, middle)
            composed = compose_deltas(first, second)
            self.assertEqual(composed, slow_compose(first, second))
            self.assertEqual(apply_delta(old, composed), apply_delta(middle, second))


if __name__ == "__main__":
    unittest.main()
