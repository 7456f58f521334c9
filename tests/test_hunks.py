"""Hunks: points 48 to 53."""

import itertools
import unittest

from shiptrace.errors import InvalidHunks, NoSuchCharacter
from shiptrace.hunks import apply_hunks, compose_hunks, fits, index_before, invert_hunks
from shiptrace.hunks import merge_hunks, rebase_hunks, touch
from support import is_plain, stamped


def slow_fits(hunks, size):
    """Return True if the hunks fit, told as point 48 tells it."""
    ends = [index + removed for index, removed, _ in hunks]
    for number, (index, removed, inserted) in enumerate(hunks):
        if ends[number] > size or (removed == 0 and len(inserted) == 0):
            return False
        if number >= 1 and not index > ends[number - 1]:
            return False
    return True


def slow_apply(text, hunks):
    """Apply hunks place by place; text and inserted texts may be any tuples."""
    result = ()
    for place in range(len(text) + 1):
        for index, _, inserted in hunks:
            if index == place:
                result += inserted
        removed = [index for index, many, _ in hunks if index <= place < index + many]
        if place < len(text) and not removed:
            result += (text[place],)
    return result


def slow_compose(size, first, second):
    """Return the composition, told as point 53 tells it, with places as characters."""
    after = slow_apply(slow_apply(tuple(range(size)), first), second)
    composed = []
    k, t = 0, ()
    for item in after + (size,):
        if type(item) is not int:
            t += (item,)
            continue
        if k < item or t:
            composed.append((k, item - k, t))
        k, t = item + 1, ()
    return tuple(composed)


def all_hunks(size, insertions):
    """Return all tuples of hunks that fit the length."""
    places = [(i, r) for i in range(size + 1) for r in range(size + 1 - i)]
    hunks = [(i, r, text) for i, r in places for text in insertions if r or text]
    found = [()]
    for many in range(1, size // 2 + 2):
        found.extend([many_hunks for many_hunks in itertools.combinations(hunks, many) if slow_fits(many_hunks, size)])
    return found


def numbered(hunks, change):
    """Return written hunks stamped, all characters with different origins."""
    found = []
    start = 0
    for index, removed, inserted in hunks:
        found.append((index, removed, stamped(inserted, change, start)))
        start += len(inserted)
    return tuple(found)


class FitsTest(unittest.TestCase):

    def test_no_hunks_fit_every_length(self):
        for size in (0, 1, 10 ** 21):
            self.assertIs(fits((), size), True)

    def test_at_the_beginning_and_at_the_end(self):
        self.assertIs(fits(((0, 0, "x"),), 0), True)
        self.assertIs(fits(((0, 3, ""),), 3), True)
        self.assertIs(fits(((3, 0, "x"),), 3), True)
        self.assertIs(fits(((0, 0, "x"), (3, 0, "y")), 3), True)

    def test_behind_the_end(self):
        self.assertIs(fits(((4, 0, "x"),), 3), False)
        self.assertIs(fits(((2, 2, "x"),), 3), False)
        self.assertIs(fits(((0, 1, "x"), (2, 2, "")), 3), False)
        self.assertIs(fits(((2, 2, ""), (0, 1, "x")), 3), False)
        self.assertIs(fits(((0, 1, ""),), 0), False)

    def test_a_hunk_that_does_nothing(self):
        self.assertIs(fits(((1, 0, ""),), 3), False)
        self.assertIs(fits(((1, 0, ()),), 3), False)
        self.assertIs(fits(((0, 1, ""), (2, 0, "")), 3), False)

    def test_no_character_between_two_hunks(self):
        self.assertIs(fits(((0, 1, ""), (1, 1, "")), 3), False)
        self.assertIs(fits(((0, 0, "x"), (0, 1, "")), 3), False)
        self.assertIs(fits(((0, 0, "x"), (0, 0, "y")), 3), False)
        self.assertIs(fits(((0, 2, ""), (1, 2, "")), 3), False)
        self.assertIs(fits(((0, 1, ""), (2, 1, "")), 3), True)
        self.assertIs(fits(((0, 0, "x"), (1, 0, "y")), 3), True)

    def test_not_in_order(self):
        self.assertIs(fits(((2, 0, "x"), (0, 0, "y")), 3), False)

    def test_written_and_stamped(self):
        self.assertIs(fits(hunks=((1, 1, stamped("x")), (3, 0, stamped("y"))), size=3), True)
        self.assertIs(fits(((1, 1, ()),), 2), True)
        self.assertIs(fits(((1, 0, stamped("x")),), 0), False)

    def test_large_numbers(self):
        large = 10 ** 21
        self.assertIs(fits(((large, 5, ""), (large + 6, 0, "x")), large + 6), True)
        self.assertIs(fits(((large, 5, ""), (large + 6, 0, "x")), large + 5), False)

    def test_all_small_pairs(self):
        hunks = [(i, r, text) for i in range(4) for r in range(3) for text in ("", "x", "yz")]
        for first in hunks:
            for second in hunks:
                for size in range(5):
                    self.assertIs(fits((first, second), size), slow_fits((first, second), size))
                    self.assertIs(fits((first,), size), slow_fits((first,), size))

    def test_three_hunks(self):
        self.assertIs(fits(((0, 1, ""), (2, 1, ""), (4, 1, "")), 5), True)
        self.assertIs(fits(((0, 1, ""), (2, 2, ""), (4, 1, "")), 5), False)


class ApplyTest(unittest.TestCase):

    def test_replacing_inserting_and_removing(self):
        text = stamped("abcdef", 1)
        hunks = ((1, 2, stamped("X", 2)), (4, 0, stamped("yz", 3)), (5, 1, ()))
        expected = text[:1] + stamped("X", 2) + text[3:4] + stamped("yz", 3) + text[4:5]
        self.assertEqual(apply_hunks(text, hunks), expected)
        self.assertEqual(apply_hunks(text=text, hunks=hunks), expected)

    def test_before_the_first_and_behind_the_last(self):
        text, x, y = stamped("ab", 1), stamped("x", 2), stamped("y", 2, 1)
        self.assertEqual(apply_hunks(text, ((0, 0, x), (2, 0, y))), x + text + y)
        self.assertEqual(apply_hunks((), ((0, 0, x),)), x)

    def test_no_hunks(self):
        self.assertEqual(apply_hunks(stamped("ab", 1), ()), stamped("ab", 1))
        self.assertEqual(apply_hunks((), ()), ())

    def test_the_whole_text(self):
        self.assertEqual(apply_hunks(stamped("ab", 1), ((0, 2, ()),)), ())

    def test_hunks_that_do_not_fit(self):
        text = stamped("abc", 1)
        wrong = (
            ((3, 1, ()),), ((4, 0, stamped("x")),), ((1, 0, ()),), ((0, 1, ()), (1, 1, ())),
            ((2, 1, ()), (0, 1, ())),
        )
        for hunks in wrong:
            with self.assertRaises(InvalidHunks):
                apply_hunks(text, hunks)

    def test_all_small_hunks(self):
        for size in range(5):
            text = stamped("abcd"[:size], 1)
            for written in all_hunks(size, ("", "x", "yz")):
                hunks = numbered(written, 2)
                result = apply_hunks(text, hunks)
                self.assertEqual(result, slow_apply(text, hunks), hunks)
                self.assertTrue(is_plain(result))


class TouchTest(unittest.TestCase):

    def test_ordinary(self):
        self.assertIs(touch(((0, 1, ""),), ((3, 1, ""),)), False)
        self.assertIs(touch(((0, 3, ""),), ((1, 1, ""),)), True)
        self.assertIs(touch(((1, 1, ""),), ((0, 3, ""),)), True)

    def test_one_ends_where_the_other_begins(self):
        self.assertIs(touch(((0, 2, ""),), ((2, 1, ""),)), True)
        self.assertIs(touch(((2, 1, ""),), ((0, 2, ""),)), True)
        self.assertIs(touch(((0, 2, ""),), ((3, 1, ""),)), False)
        self.assertIs(touch(((3, 1, ""),), ((0, 2, ""),)), False)
        self.assertIs(touch(((2, 0, "x"),), ((0, 2, ""),)), True)
        self.assertIs(touch(((2, 0, "x"),), ((2, 0, "x"),)), True)
        self.assertIs(touch(((2, 0, "x"),), ((3, 0, "x"),)), False)

    def test_none(self):
        self.assertIs(touch((), ()), False)
        self.assertIs(touch((), ((0, 1, ""),)), False)
        self.assertIs(touch(((0, 1, ""),), ()), False)

    def test_any_hunk_of_any(self):
        first = ((0, 1, ""), (4, 1, stamped("x")), (9, 1, ""))
        self.assertIs(touch(first, ((2, 1, ""), (7, 1, ""))), False)
        self.assertIs(touch(first, ((2, 1, ""), (7, 2, ""))), True)
        self.assertIs(touch(first=((2, 1, ""), (6, 2, "")), second=first), False)
        self.assertIs(touch(((2, 1, ""), (5, 0, "x"), (7, 1, "")), first), True)

    def test_all_small_pairs(self):
        known = all_hunks(3, ("", "x"))
        for first in known:
            for second in known:
                pairs = [(a, b) for a in first for b in second]
                expected = any([a[0] <= b[0] + b[1] and b[0] <= a[0] + a[1] for a, b in pairs])
                self.assertIs(touch(first, second), expected)


class RebaseTest(unittest.TestCase):

    def test_ordinary(self):
        self.assertEqual(rebase_hunks(((4, 0, "yz"),), ((1, 2, "X"),)), ((3, 0, "yz"),))
        self.assertEqual(rebase_hunks(hunks=((1, 2, "X"),), over=((4, 0, "yz"),)), ((1, 2, "X"),))
        stamps = ((4, 1, stamped("q")),)
        self.assertEqual(rebase_hunks(stamps, ((0, 0, stamped("abc")),)), ((7, 1, stamped("q")),))

    def test_several(self):
        hunks = ((2, 1, ""), (6, 0, "p"), (10, 2, "q"))
        over = ((0, 1, "abc"), (4, 1, ""), (8, 0, "x"))
        self.assertEqual(rebase_hunks(hunks, over), ((4, 1, ""), (7, 0, "p"), (12, 2, "q")))
        self.assertEqual(rebase_hunks(over, hunks), ((0, 1, "abc"), (3, 1, ""), (8, 0, "x")))

    def test_over_none(self):
        hunks = ((2, 1, ""), (6, 0, "p"))
        self.assertEqual(rebase_hunks(hunks, ()), hunks)
        self.assertEqual(rebase_hunks((), hunks), ())

    def test_merging(self):
        self.assertEqual(merge_hunks(((4, 0, "yz"),), ((1, 2, "X"),)), ((1, 2, "X"), (4, 0, "yz")))
        self.assertEqual(merge_hunks((), ()), ())
        one, other = ((0, 0, "z"), (4, 0, "a")), ((2, 0, "m"), (8, 1, ""))
        merged = ((0, 0, "z"), (2, 0, "m"), (4, 0, "a"), (8, 1, ""))
        self.assertEqual(merge_hunks(one, other), merged)
        self.assertEqual(merge_hunks(first=other, second=one), merged)
        self.assertEqual(merge_hunks(one, ()), one)
        stamps = ((3, 1, stamped("q")),)
        self.assertEqual(merge_hunks(stamps, ((0, 1, ()),)), ((0, 1, ()), (3, 1, stamped("q"))))

    def test_whichever_is_applied_first(self):
        text = stamped("abcde", 1)
        known = all_hunks(5, ("", "xy"))[::3]
        for one in known[::2]:
            for other in known:
                first, second = numbered(one, 2), numbered(other, 3)
                if not touch(first, second):
                    self.check_both_ways(text, first, second)

    def check_both_ways(self, text, first, second):
        expected = slow_apply(text, tuple(sorted(first + second)))
        for one, other in ((first, second), (second, first)):
            rebased = rebase_hunks(other, one)
            self.assertEqual(slow_apply(slow_apply(text, one), rebased), expected)
            self.assertEqual([hunk[1:] for hunk in rebased], [hunk[1:] for hunk in other])
            merged = merge_hunks(one, other)
            self.assertEqual(merged, tuple(sorted(first + second)))
            self.assertTrue(is_plain((rebased, merged)))
        self.assertEqual(apply_hunks(text, merge_hunks(first, second)), expected)


class InvertTest(unittest.TestCase):

    def test_ordinary(self):
        text = stamped("abcdef", 1)
        hunks = ((1, 2, stamped("X", 2)), (5, 0, stamped("y", 3)))
        expected = ((1, 1, text[1:3]), (4, 1, ()))
        self.assertEqual(invert_hunks(text, hunks), expected)
        self.assertEqual(invert_hunks(text=text, hunks=hunks), expected)
        self.assertEqual(invert_hunks(text, ()), ())

    def test_hunks_that_do_not_fit(self):
        for hunks in (((3, 1, ()),), ((1, 0, ()),), ((0, 1, ()), (1, 1, ()))):
            with self.assertRaises(InvalidHunks):
                invert_hunks(stamped("abc", 1), hunks)

    def test_all_small_hunks(self):
        for size in range(5):
            text = tuple([(sign, 7, 9 - number) for number, sign in enumerate("abca"[:size])])
            for written in all_hunks(size, ("", "x", "yz")):
                hunks = numbered(written, 2)
                inverse = invert_hunks(text, hunks)
                self.assertEqual(len(inverse), len(hunks))
                self.assertTrue(is_plain(inverse))
                result = slow_apply(text, hunks)
                self.assertEqual(slow_apply(result, inverse), text)
                self.assertTrue(slow_fits(inverse, len(result)))
                self.assertEqual(invert_hunks(result, inverse), hunks)


class ComposeTest(unittest.TestCase):

    def test_ordinary(self):
        first = ((0, 1, stamped("xy", 1)), (2, 0, stamped("z", 2)))
        second = ((1, 2, stamped("q", 3)), (5, 1, ()))
        expected = ((0, 2, (("x", 1, 0), ("q", 3, 0), ("z", 2, 0))), (3, 1, ()))
        self.assertEqual(compose_hunks(4, first, second), expected)
        self.assertEqual(compose_hunks(size=4, first=first, second=second), expected)

    def test_insertions_that_are_removed_again(self):
        first = ((2, 0, stamped("xy", 1)),)
        self.assertEqual(compose_hunks(4, first, ((2, 2, ()),)), ())
        self.assertEqual(compose_hunks(4, first, ((2, 1, ()),)), ((2, 0, (("y", 1, 1),)),))
        self.assertEqual(compose_hunks(0, ((0, 0, stamped("x", 1)),), ((0, 1, ()),)), ())

    def test_stretches_that_vanish_in_both(self):
        self.assertEqual(compose_hunks(5, ((1, 2, ()),), ((1, 1, ()),)), ((1, 3, ()),))
        self.assertEqual(compose_hunks(3, ((0, 1, ()),), ((0, 2, ()),)), ((0, 3, ()),))

    def test_none(self):
        hunks = ((1, 1, stamped("x", 1)), (3, 0, stamped("y", 1, 1)))
        self.assertEqual(compose_hunks(3, hunks, ()), hunks)
        self.assertEqual(compose_hunks(3, (), hunks), hunks)
        self.assertEqual(compose_hunks(0, (), ()), ())
        self.assertEqual(compose_hunks(9, (), ()), ())

    def test_the_same_character_removed_and_inserted(self):
        text = stamped("abc", 1)
        first = ((1, 1, ()),)
        self.assertEqual(compose_hunks(3, first, ((1, 0, text[1:2]),)), ((1, 1, text[1:2]),))

    def test_hunks_that_do_not_fit(self):
        x = stamped("x", 1)
        for first, second in ((((3, 1, ()),), ()), ((), ((3, 1, ()),)), (((1, 1, ()),), ((2, 1, ()),)),
                              (((1, 0, ()),), ()), (((0, 0, x),), ((4, 1, ()),))):
            with self.assertRaises(InvalidHunks):
                compose_hunks(3, first, second)
        self.assertEqual(compose_hunks(3, ((0, 0, x),), ((3, 1, ()),)), ((0, 0, x), (2, 1, ())))

    def test_a_long_text(self):
        first = ((1000, 2, stamped("x", 1)),)
        second = ((3, 1, ()), (1005, 1, ()))
        expected = ((3, 1, ()), (1000, 2, stamped("x", 1)), (1006, 1, ()))
        self.assertEqual(compose_hunks(2000, first, second), expected)

    def test_all_small_hunks(self):
        for size in range(4):
            for one in all_hunks(size, ("", "xy")):
                first = numbered(one, 2)
                middle = len(slow_apply((0,) * size, first))
                for other in all_hunks(middle, ("", "z"))[::3]:
                    second = numbered(other, 3)
                    result = compose_hunks(size, first, second)
                    self.assertEqual(result, slow_compose(size, first, second), (size, first, second))
                    self.assertTrue(is_plain(result))


class IndexBeforeTest(unittest.TestCase):

    def test_ordinary(self):
        hunks = ((1, 2, "xyz"), (4, 0, "w"))
        found = [index_before(6, hunks, index) for index in range(8)]
        self.assertEqual(found, [0, None, None, None, 3, None, 4, 5])
        self.assertEqual(index_before(size=6, hunks=hunks, index=6), 4)

    def test_written_and_stamped(self):
        self.assertEqual(index_before(3, ((0, 1, stamped("ab")),), 2), 1)
        self.assertIsNone(index_before(3, ((0, 1, stamped("ab")),), 1))
        self.assertEqual(index_before(3, ((0, 1, ()),), 0), 1)

    def test_beyond_the_result(self):
        for size, hunks in ((0, ()), (3, ()), (3, ((0, 1, "xy"),)), (3, ((1, 2, ""),)), (2, ((0, 2, ""),))):
            many = len(slow_apply((0,) * size, tuple([(i, r, tuple(t)) for i, r, t in hunks])))
            for index in (many, many + 1, 10 ** 21):
                with self.assertRaises(NoSuchCharacter):
                    index_before(size, hunks, index)

    def test_invalid_hunks_come_first(self):
        for index in (0, 99):
            with self.assertRaises(InvalidHunks):
                index_before(3, ((4, 0, "x"),), index)
            with self.assertRaises(InvalidHunks):
                index_before(3, ((1, 0, ""),), index)

    def test_all_small_hunks(self):
        for size in range(5):
            for written in all_hunks(size, ("", "x", "yz")):
                result = slow_apply(tuple(range(size)), numbered(written, 2))
                for index, item in enumerate(result):
                    expected = item if type(item) is int else None
                    self.assertEqual(index_before(size, written, index), expected)
                with self.assertRaises(NoSuchCharacter):
                    index_before(size, written, len(result))


if __name__ == "__main__":
    unittest.main()
