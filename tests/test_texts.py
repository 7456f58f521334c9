"""Texts: points 20 to 25."""

import unittest

from shiptrace.texts import find, origin_runs, replace_all, signs_of, stamp
from support import is_plain, signs, stamped, strings_over

ALL_SIGNS = "".join([chr(number) for number in range(32, 127) if number != 37])


def slow_first_index(text, wanted):
    for index in range(len(text) - len(wanted) + 1):
        if signs(text[index:index + len(wanted)]) == signs(wanted):
            return index
    return None


def slow_find(text, wanted):
    index = slow_first_index(text, wanted)
    if index is None:
        return None, text, (), (), wanted + text
    end = index + len(wanted)
    return index, text[:index], text[index:end], text[end:], wanted + text[:end]


def slow_replaced(text, wanted, new):
    index = slow_first_index(text, wanted)
    if not wanted or index is None:
        return text
    return text[:index] + new + slow_replaced(text[index + len(wanted):], wanted, new)


class StampTest(unittest.TestCase):

    def test_from_a_start_number(self):
        self.assertEqual(stamp("ab", 3, 7), (("a", 3, 7), ("b", 3, 8)))
        self.assertEqual(stamp("ab", 3, start=7), (("a", 3, 7), ("b", 3, 8)))
        self.assertEqual(stamp(string="a", change=0, start=0), (("a", 0, 0),))

    def test_without_a_start_number(self):
        self.assertEqual(stamp("xyx", 5), (("x", 5, 0), ("y", 5, 1), ("x", 5, 2)))

    def test_the_empty_string(self):
        self.assertEqual(stamp("", 4), ())
        self.assertEqual(stamp("", 4, 9), ())

    def test_large_numbers(self):
        change, start = 10 ** 20 + 1, 10 ** 21 + 3
        self.assertEqual(stamp("ab", change, start), (("a", change, start), ("b", change, start + 1)))

    def test_all_signs(self):
        text = stamp(ALL_SIGNS, 1)
        self.assertEqual(text, stamped(ALL_SIGNS, 1))
        self.assertTrue(is_plain(text))


class SignsTest(unittest.TestCase):

    def test_signs_in_order(self):
        self.assertEqual(signs_of((("b", 4, 4), ("a", 0, 9), ("b", 4, 4))), "bab")

    def test_the_empty_text(self):
        self.assertEqual(signs_of(()), "")

    def test_stamping_and_back(self):
        self.assertEqual(signs_of(stamp(ALL_SIGNS, 2, 5)), ALL_SIGNS)


class FindTest(unittest.TestCase):

    def test_the_first_of_several(self):
        text, wanted = stamped("banana", 3), stamped("an", 4)
        expected = (1, text[:1], text[1:3], text[3:], wanted + text[:3])
        self.assertEqual(find(text, wanted), expected)
        self.assertEqual(find(text=text, wanted=wanted), expected)

    def test_the_empty_wanted_text_reads_nothing(self):
        text = stamped("ab", 1)
        self.assertEqual(find(text, ()), (0, (), (), text, ()))
        self.assertEqual(find((), ()), (0, (), (), (), ()))

    def test_no_match_reads_everything(self):
        text, wanted = stamped("ab", 1), stamped("c", 2)
        self.assertEqual(find(text, wanted), (None, text, (), (), wanted + text))
        self.assertEqual(find((), wanted), (None, (), (), (), wanted))

    def test_longer_than_the_text(self):
        text, wanted = stamped("ab", 1), stamped("abc", 2)
        self.assertEqual(find(text, wanted), (None, text, (), (), wanted + text))

    def test_at_the_very_end(self):
        text, wanted = stamped("xxab", 1), stamped("ab", 2)
        self.assertEqual(find(text, wanted), (2, text[:2], text[2:], (), wanted + text))

    def test_the_whole_text(self):
        text, wanted = stamped("ab", 1), stamped("ab", 2)
        self.assertEqual(find(text, wanted), (0, (), text, (), wanted + text))

    def test_one_that_overlaps_itself(self):
        text, wanted = stamped("abababa", 1), stamped("aba", 2)
        self.assertEqual(find(text, wanted)[:3], (0, (), text[:3]))
        text, wanted = stamped("aab", 1), stamped("ab", 2)
        self.assertEqual(find(text, wanted)[0], 1)

    def test_origins_play_no_part_and_are_kept(self):
        text = (("a", 7, 9), ("b", 1, 2), ("a", 0, 0))
        wanted = (("b", 5, 5), ("a", 5, 5))
        self.assertEqual(find(text, wanted), (1, text[:1], text[1:], (), wanted + text))

    def test_capital_letters_are_other_signs(self):
        self.assertIsNone(find(stamped("AB"), stamped("ab"))[0])

    def test_signs_that_patterns_know(self):
        text = stamped("a.b*c[d]", 1)
        self.assertEqual(find(text, stamped("*", 2))[0], 3)
        self.assertEqual(find(text, stamped(".", 2))[0], 1)
        self.assertIsNone(find(text, stamped("a.c", 2))[0])

    def test_all_small_texts(self):
        for one in strings_over("ab", 5):
            for other in strings_over("ab", 3):
                text, wanted = stamped(one, 1, 3), stamped(other, 2)
                result = find(text, wanted)
                self.assertEqual(result, slow_find(text, wanted), (one, other))
                self.assertTrue(is_plain(result))


class ReplaceTest(unittest.TestCase):

    def check(self, one, other, third, expected):
        text, wanted, new = stamped(one, 1), stamped(other, 2), stamped(third, 3)
        result, read = replace_all(text, wanted, new)
        self.assertEqual(signs(result), expected)
        self.assertEqual(read, wanted + text)

    def test_ordinary(self):
        self.check("banana", "an", "o", "booa")
        self.check("banana", "an", "", "ba")
        self.check("banana", "x", "y", "banana")
        self.check("", "x", "y", "")

    def test_matches_side_by_side_and_overlapping(self):
        self.check("aaaaa", "aa", "ba", "babaa")
        self.check("abab", "ab", "c", "cc")
        self.check("ababa", "aba", "x", "xba")

    def test_what_is_inserted_is_not_searched(self):
        self.check("aa", "a", "aa", "aaaa")
        self.check("abb", "ab", "a", "ab")
        self.check("ab", "b", "ab", "aab")

    def test_longer_than_the_text(self):
        self.check("a", "aa", "b", "a")

    def test_the_empty_wanted_text_reads_nothing(self):
        text = stamped("xy", 1)
        self.assertEqual(replace_all(text, (), stamped("z", 2)), (text, ()))
        self.assertEqual(replace_all((), (), ()), ((), ()))

    def test_origins_are_kept(self):
        text = (("x", 4, 1), ("a", 9, 9), ("y", 0, 0), ("a", 9, 8))
        new = (("q", 6, 6),)
        result = replace_all(text, (("a", 1, 1),), new)
        self.assertEqual(result[0], (("x", 4, 1), ("q", 6, 6), ("y", 0, 0), ("q", 6, 6)))
        self.assertEqual(result[1], (("a", 1, 1),) + text)
        self.assertEqual(replace_all(text=text, wanted=(("a", 1, 1),), new=new), result)

    def test_all_small_texts(self):
        for one in strings_over("ab", 5):
            for other in strings_over("ab", 2):
                for third in strings_over("ab", 2):
                    text, wanted, new = stamped(one, 1), stamped(other, 2), stamped(third, 3)
                    result = replace_all(text, wanted, new)
                    self.assertEqual(result[0], slow_replaced(text, wanted, new), (one, other, third))
                    self.assertEqual(result[1], wanted + text if wanted else ())
                    self.assertTrue(is_plain(result))

    def test_many_matches(self):
        text, new = stamped("ab" * 3000, 1), stamped("c", 2)
        result, read = replace_all(text, stamped("b", 3), new)
        self.assertEqual(signs(result), "ac" * 3000)
        self.assertEqual(len(read), 6001)


class RunsTest(unittest.TestCase):

    def text_with(self, *origins):
        return tuple([("x", change, index) for change, index in origins])

    def test_no_characters(self):
        self.assertEqual(origin_runs(()), ())

    def test_one_run(self):
        self.assertEqual(origin_runs(stamped("abcd", 3, 5)), ((3, 5, 4),))
        self.assertEqual(origin_runs(text=stamped("a", 0)), ((0, 0, 1),))

    def test_a_run_ends_where_the_change_does(self):
        text = self.text_with((1, 0), (1, 1), (2, 2), (2, 3))
        self.assertEqual(origin_runs(text), ((1, 0, 2), (2, 2, 2)))

    def test_a_run_ends_where_the_step_is_not_one(self):
        text = self.text_with((1, 4), (1, 5), (1, 5), (1, 7), (1, 6), (1, 7))
        self.assertEqual(origin_runs(text), ((1, 4, 2), (1, 5, 1), (1, 7, 1), (1, 6, 2)))

    def test_signs_do_not_matter(self):
        self.assertEqual(origin_runs((("a", 1, 1), ("a", 1, 2), ("z", 1, 3))), ((1, 1, 3),))

    def test_runs_are_as_long_as_possible(self):
        numbers = [(0, 0), (0, 1), (0, 2), (1, 1)]
        for first in numbers:
            for second in numbers:
                for third in numbers:
                    self.check_runs([first, second, third])

    def check_runs(self, origins):
        runs = origin_runs(self.text_with(*origins))
        spread = [(change, start + k) for change, start, length in runs for k in range(length)]
        self.assertEqual(spread, origins)
        breaks = [k for k in range(1, 3) if (origins[k - 1][0], origins[k - 1][1] + 1) != origins[k]]
        self.assertEqual(len(runs), len(breaks) + 1)
        self.assertTrue(is_plain(runs))


if __name__ == "__main__":
    unittest.main()
