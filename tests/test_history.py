"""History: points 65 and 66."""

import unittest

from shiptrace.edits import stamp_edits
from shiptrace.history import lifetime_of, locations_of
from shiptrace.trees import EMPTY
from support import is_plain, literal, stamped

X = ("x", 4, 2)


class LocationsTest(unittest.TestCase):

    def test_files_rules_and_tests_in_order(self):
        files = (("a", (("p", 0, 0), X, ("q", 2, 4), X)), ("b", stamped("x", 1)), ("c", (X,)))
        rule = ("if", literal("ab", 4), ("file", "a"), ("literal", (("b", 1, 1), X)))
        rules = (("a", rule), ("b", ("literal", (X,))))
        tests = (("a", ("concat", ("literal", ()), ("literal", (X,)))), ("z", ("file", "a")))
        tree = (files, rules, tests, (("x", ()),), ())
        expected = (
            ("file:a", 1), ("file:a", 3), ("file:c", 0), ("rule:a", 3), ("rule:b", 0), ("test:a", 0),
        )
        result = locations_of(tree, 4, 2)
        self.assertEqual(result, expected)
        self.assertEqual(locations_of(tree=tree, change=4, index=2), expected)
        self.assertTrue(is_plain(result))

    def test_an_origin_that_does_not_occur(self):
        tree = ((("a", (X,)),), (), (), (), ())
        for change, index in ((4, 1), (3, 2), (2, 4), (10 ** 21, 0)):
            self.assertEqual(locations_of(tree, change, index), ())
        self.assertEqual(locations_of(EMPTY, 4, 2), ())

    def test_the_sign_plays_no_part(self):
        tree = ((("a", (("y", 4, 2), X)),), (), (), (), ())
        self.assertEqual(locations_of(tree, 4, 2), (("file:a", 0), ("file:a", 1)))


class LifetimeTest(unittest.TestCase):

    def setUp(self):
        one = (0, stamp_edits((("write", "a", "abc"), ("set rule", "r", ("literal", "l"))), 0))
        two = (1, (("delete", "a"), ("set test", "t", ("literal", (("l", 0, 3),)))))
        three = (2, (("write", "b", (("b", 0, 1),)), ("delete rule", "r")))
        self.trunk = (one, two, three)

    def test_one_that_goes(self):
        self.assertEqual(lifetime_of(self.trunk, 0, 0), ((1, 2),))
        self.assertEqual(lifetime_of(self.trunk[:2], 0, 0), ((1, 2),))

    def test_one_that_goes_and_comes_back(self):
        result = lifetime_of(self.trunk, 0, 1)
        self.assertEqual(result, ((1, 2), (3, None)))
        self.assertTrue(is_plain(result))
        longer = self.trunk + ((3, (("delete", "b"),)), (4, ()), (5, (("write", "z", (("b", 0, 1),)),)))
        self.assertEqual(lifetime_of(longer, 0, 1), ((1, 2), (3, 4), (6, None)))

    def test_one_that_is_there_in_the_last_revision(self):
        self.assertEqual(lifetime_of(self.trunk[:1], 0, 0), ((1, None),))
        self.assertEqual(lifetime_of(trunk=self.trunk[:1] + ((7, ()),), change=0, index=2), ((1, None),))

    def test_from_one_place_to_another(self):
        self.assertEqual(lifetime_of(self.trunk, 0, 3), ((1, None),))

    def test_one_that_does_not_occur(self):
        self.assertEqual(lifetime_of(self.trunk, 0, 4), ())
        self.assertEqual(lifetime_of(self.trunk, 1, 0), ())
        self.assertEqual(lifetime_of((), 0, 0), ())

    def test_several_times_in_one_text(self):
        trunk = ((0, (("write", "a", (X, X)),)), (1, (("patch", "a", ((0, 1, ()),)),)), (2, (("patch", "a", ((0, 1, ()),)),)))
        self.assertEqual(lifetime_of(trunk, 4, 2), ((1, 3),))


if __name__ == "__main__":
    unittest.main()
