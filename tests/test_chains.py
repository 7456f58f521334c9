"""Chains, which both dependencies of targets and of flags are made of."""

import unittest

from shiptrace.chains import first_endless, ranks_of


class ChainsTest(unittest.TestCase):

    def check(self, links, ranks, endless):
        before = {name: list(links[name]) for name in links}
        self.assertEqual(ranks_of(links), ranks)
        self.assertEqual(first_endless(links), endless)
        self.assertEqual(links, before)

    def test_without_a_cycle(self):
        self.check({}, {}, None)
        self.check({"a": []}, {"a": 0}, None)
        self.check({"a": ["b", "c"], "b": ["c"], "c": []}, {"a": 2, "b": 1, "c": 0}, None)
        self.check({"a": [], "b": ["a", "a"], "c": ["a", "b"], "d": ["a"]}, {"a": 0, "b": 1, "c": 2, "d": 1}, None)

    def test_with_a_cycle(self):
        self.check({"a": ["a"]}, {}, "a")
        self.check({"a": [], "b": ["c"], "c": ["d", "a"], "d": ["c"]}, {"a": 0}, "b")
        self.check({"a": ["c"], "b": [], "c": ["c", "b"]}, {"b": 0}, "a")


if __name__ == "__main__":
    unittest.main()
