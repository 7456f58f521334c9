"""Rebuilding: points 107 to 110."""

import random
import unittest

from reference import PATHS, TARGETS, all_parts, is_true, random_text, random_tree, slow_build, slow_character
from reference import slow_environment, slow_trace
from shiptrace.errors import DependencyCycle, NoSuchTarget
from shiptrace.expressions import shape_of
from shiptrace.graph import build_order, find_cycle
from shiptrace.rebuilding import affected_targets, cause_of, rebuild, status_of
from shiptrace.trees import EMPTY
from support import is_plain, literal, stamped

A = stamped("abc", 1)
FILES = (("a", A), ("b", stamped("b", 2)))


def tree_of(files, **rules):
    return tuple(sorted(files)), tuple(sorted(rules.items())), (), (), ()


def with_file(path, text, files=FILES):
    """Return the files with this one, or without it if the text is None."""
    changed = dict(files)
    changed[path] = text
    return tuple([(p, changed[p]) for p in sorted(changed) if changed[p] is not None])


def slow_cause(old, new, target):
    """Return the status of the target and its cause."""
    before, after = dict(old[1]).get(target), dict(new[1])[target]
    if before is None or shape_of(before) != shape_of(after):
        return "rebuilt", None
    reads, _ = slow_trace(before, slow_environment(old))
    environment = slow_environment(new)
    for index, read in enumerate(reads):
        if not is_true(read, after, environment):
            return "rebuilt", (index, read, slow_read(read, after, environment))
    same = slow_build(old, target)[0] == slow_build(new, target)[0]
    return "unchanged" if same else "replayed", None


def slow_read(read, rule, environment):
    """Return what is true in the place of the read."""
    files, targets, _ = environment
    if read[0] in ("file", "missing"):
        text = dict(files).get(read[1])
        return ("missing", read[1]) if text is None else ("file", read[1], len(text))
    if read[0] == "list":
        return "list", read[1], tuple([path for path, _ in files if path.startswith(read[1])])
    if read[0] == "char":
        return "char", read[1], slow_character(read[1], rule, environment)[0]
    kind, value = dict(targets).get(read[1], ("error", ("missing target", read[1])))
    return ("target", read[1], len(value)) if kind == "text" else ("failed", read[1], value)


class RebuildingTest(unittest.TestCase):

    def check(self, old, new, target, status, cause=None):
        self.assertEqual(slow_cause(old, new, target), (status, cause))
        self.assertEqual(status_of(old, new, target), status)
        self.assertEqual(cause_of(old, new, target), cause)
        self.assertTrue(is_plain(cause_of(old, new, target)))
        self.check_rebuild(old, new)

    def check_rebuild(self, old, new):
        names = tuple([name for name, _ in new[1]])
        results = tuple([(name, slow_build(new, name)[0]) for name in names])
        executed = tuple([name for name in build_order(new, names) if slow_cause(old, new, name)[0] == "rebuilt"])
        self.assertEqual(rebuild(old, new), (results, executed))
        self.assertTrue(is_plain(rebuild(old, new)))

    def check_files(self, rule, files, status, cause=None, before=FILES):
        self.check(tree_of(before, r=rule), tree_of(files, r=rule), "r", status, cause)


class StatusTest(RebuildingTest):

    def test_nothing_changed(self):
        for rule in (("file", "a"), literal("x"), ("file", "m"), ("target", "m"), ("concat files", "")):
            self.check_files(rule, FILES, "unchanged")
        tree = tree_of(FILES, r=("file", "a"))
        self.assertEqual(status_of(old=tree, new=tree, target="r"), "unchanged")
        self.assertIsNone(cause_of(old=tree, new=tree, target="r"))
        self.assertEqual(rebuild(old=tree, new=tree), ((("r", ("text", A)),), ()))

    def test_no_rule_in_the_old_tree(self):
        self.check(EMPTY, tree_of(FILES, r=literal("x")), "r", "rebuilt")
        self.check(tree_of(FILES, s=literal("x")), tree_of(FILES, r=literal("x")), "r", "rebuilt")

    def test_a_rule_that_goes(self):
        self.check_rebuild(tree_of(FILES, r=literal("x"), s=literal("y")), tree_of(FILES, s=literal("y")))
        self.check_rebuild(tree_of(FILES, r=literal("x")), EMPTY)
        self.check_rebuild(EMPTY, EMPTY)

    def test_rules_of_another_shape(self):
        for rule in (("optional file", "a"), ("slice", ("file", "a"), 0, 9), ("file", "b"), literal("xyz"), literal("")):
            self.check(tree_of(FILES, r=("file", "a")), tree_of(FILES, r=rule), "r", "rebuilt")
        self.check(tree_of(FILES, r=literal("ab")), tree_of(FILES, r=literal("a")), "r", "rebuilt")

    def test_literals_that_are_not_read(self):
        self.check(tree_of(FILES, r=literal("ab")), tree_of(FILES, r=literal("cd")), "r", "replayed")
        self.check(tree_of(FILES, r=literal("ab")), tree_of(FILES, r=literal("ab", 7)), "r", "replayed")
        old, new = [("if", literal(sign), ("file", "a"), literal("")) for sign in "xy"]
        self.check(tree_of(FILES, r=old), tree_of(FILES, r=new), "r", "unchanged")

    def test_literals_that_are_read(self):
        old, new = [("find", ("file", "a"), literal(signs)) for signs in ("bc", "bd")]
        cause = (2, ("char", ("literal", 1), "c"), ("char", ("literal", 1), "d"))
        self.check(tree_of(FILES, r=old), tree_of(FILES, r=new), "r", "rebuilt", cause)
        new = ("find", ("file", "a"), literal("bc", 9))
        self.check(tree_of(FILES, r=old), tree_of(FILES, r=new), "r", "unchanged")

    def test_files_that_come_and_go(self):
        cause = (0, ("file", "a", 3), ("missing", "a"))
        for rule in (("file", "a"), ("optional file", "a")):
            self.check_files(rule, with_file("a", None), "rebuilt", cause)
        cause = (0, ("missing", "m"), ("file", "m", 1))
        for rule in (("file", "m"), ("optional file", "m")):
            self.check_files(rule, with_file("m", stamped("x")), "rebuilt", cause)
        self.check_files(("optional file", "m"), with_file("m", ()), "rebuilt", (0, ("missing", "m"), ("file", "m", 0)))

    def test_other_files_play_no_part(self):
        self.check_files(("file", "a"), with_file("b", None), "unchanged")
        self.check_files(("concat files", "a"), with_file("c", stamped("x")), "unchanged")

    def test_lengths(self):
        self.check_files(("file", "a"), with_file("a", A + A[:1]), "rebuilt", (0, ("file", "a", 3), ("file", "a", 4)))
        self.check_files(("slice", ("file", "a"), 0, 0), with_file("a", ()), "rebuilt", (
            0, ("file", "a", 3), ("file", "a", 0),
        ))

    def test_signs(self):
        rule = ("before", ("file", "a"), ("file", "b"))
        self.check_files(rule, with_file("a", stamped("abx", 1)), "unchanged")
        self.check_files(rule, with_file("a", stamped("abx", 5)), "replayed")
        cause = (3, ("char", ("file", "a", 0), "a"), ("char", ("file", "a", 0), "x"))
        self.check_files(rule, with_file("a", stamped("xbc", 1)), "rebuilt", cause)
        cause = (2, ("char", ("file", "b", 0), "b"), ("char", ("file", "b", 0), "c"))
        self.check_files(rule, with_file("b", stamped("c", 2)), "rebuilt", cause)

    def test_origins(self):
        self.check_files(("file", "a"), with_file("a", stamped("abc", 5)), "replayed")
        self.check_files(("find", ("file", "a"), ("file", "b")), with_file("b", stamped("b", 5)), "unchanged")

    def test_listings(self):
        cause = (0, ("list", "a", ("a",)), ("list", "a", ("a", "a/1")))
        self.check_files(("concat files", "a"), with_file("a/1", ()), "rebuilt", cause)
        cause = (0, ("list", "", ("a", "b")), ("list", "", ("a",)))
        self.check_files(("concat files", ""), with_file("b", None), "rebuilt", cause)
        cause = (1, ("file", "a", 3), ("file", "a", 0))
        self.check_files(("concat files", ""), with_file("a", ()), "rebuilt", cause)

    def test_targets(self):
        rule = ("target", "s")
        texts = literal("x"), literal("xy"), ("file", "m")
        reads = ("target", "s", 1), ("target", "s", 2), ("failed", "s", ("missing file", "m"))
        for before in range(3):
            for after in range(3):
                old, new = tree_of(FILES, r=rule, s=texts[before]), tree_of(FILES, r=rule, s=texts[after])
                if before == after:
                    self.check(old, new, "r", "unchanged")
                else:
                    self.check(old, new, "r", "rebuilt", (0, reads[before], reads[after]))

    def test_targets_without_rules(self):
        gone = ("failed", "s", ("missing target", "s"))
        old, new = tree_of(FILES, r=("target", "s"), s=("file", "a")), tree_of(FILES, r=("target", "s"))
        self.check(old, new, "r", "rebuilt", (0, ("target", "s", 3), gone))
        self.check(new, old, "r", "rebuilt", (0, gone, ("target", "s", 3)))
        self.check(new, tree_of((), r=("target", "s")), "r", "unchanged")

    def test_other_errors(self):
        old = tree_of(FILES, r=("target", "s"), s=("file", "m"))
        new = tree_of(FILES, r=("target", "s"), s=("target", "m"))
        cause = (0, ("failed", "s", ("missing file", "m")), ("failed", "s", ("missing target", "m")))
        self.check(old, new, "r", "rebuilt", cause)

    def test_a_target_that_is_built_to_the_same_signs(self):
        rules = {"r": ("before", ("target", "s"), literal("z")), "s": ("slice", ("file", "a"), 0, 3)}
        old, new = tree_of(FILES, **rules), tree_of(with_file("a", stamped("abcd", 1)), **rules)
        self.check(old, new, "s", "rebuilt", (0, ("file", "a", 3), ("file", "a", 4)))
        self.check(old, new, "r", "unchanged")
        new = tree_of(with_file("a", stamped("abcd", 3)), **rules)
        self.check(old, new, "r", "replayed")

    def test_dynamic_files(self):
        rule = ("dynamic file", ("file", "b"))
        cause = (1, ("char", ("file", "b", 0), "b"), ("char", ("file", "b", 0), "a"))
        self.check_files(rule, with_file("b", stamped("a", 2)), "rebuilt", cause)
        self.check_files(rule, with_file("a", None), "unchanged")

    def test_the_first_untrue_read_is_the_cause(self):
        rule = ("concat", ("file", "b"), ("concat", ("file", "a"), ("optional file", "m")))
        files = with_file("m", stamped("x"), with_file("a", None))
        self.check_files(rule, files, "rebuilt", (1, ("file", "a", 3), ("missing", "a")))

    def test_cycles(self):
        fine = tree_of(FILES, r=literal("x"))
        one = tree_of(FILES, k=("target", "k"), r=literal("x"))
        two = tree_of(FILES, c=("target", "d"), d=("target", "d"), r=literal("x"))
        for old, new, target in ((one, fine, "k"), (fine, two, "c"), (one, two, "k"), (two, one, "c")):
            for call in (
                lambda: status_of(old, new, "r"), lambda: status_of(old, new, "m"), lambda: cause_of(old, new, "r"),
                lambda: cause_of(old, new, "m"), lambda: rebuild(old, new),
            ):
                with self.assertRaises(DependencyCycle) as caught:
                    call()
                self.assertEqual(caught.exception.target, target)

    def test_a_target_without_a_rule(self):
        old, new = tree_of(FILES, m=literal("x"), r=literal("x")), tree_of(FILES, r=("target", "m"))
        for call in (status_of, cause_of):
            with self.assertRaises(NoSuchTarget) as caught:
                call(old, new, "m")
            self.assertEqual(caught.exception.name, "m")


class ManyTreesTest(RebuildingTest):

    def changed(self, rng, tree):
        """Return a tree that differs in a file or a rule, perhaps not at all."""
        files, rules = dict(tree[0]), dict(tree[1])
        for _ in range(rng.randrange(3)):
            path = rng.choice(PATHS)
            text = files.get(path, ())
            at = rng.randrange(len(text) + 1)
            files[path] = rng.choice((random_text(rng), text[:at] + (("a", 5, 5),) + text[at + 1:]))
        for _ in range(rng.randrange(2)):
            files.pop(rng.choice(PATHS), None)
        if rng.randrange(3) == 0:
            rules.pop(rng.choice(TARGETS), None)
        if rng.randrange(2):
            for name in rules:
                rules[name] = self.with_other_literals(rng, rules[name])
        return tuple(sorted(files.items())), tuple(sorted(rules.items())), (), (), ()

    def with_other_literals(self, rng, rule):
        if rule[0] == "literal":
            return ("literal", tuple([(rng.choice((c[0], c[0], "b")), c[1], rng.randrange(3)) for c in rule[1]]))
        return tuple([self.with_other_literals(rng, part) if isinstance(part, tuple) else part for part in rule])

    def test_many_trees(self):
        rng = random.Random(107)
        seen = {}
        for _ in range(500):
            old = random_tree(rng, 3, True)
            new = self.changed(rng, old)
            if rng.randrange(2):
                old, new = new, old
            self.assertIsNone(find_cycle(new))
            for target, _ in new[1]:
                status, cause = slow_cause(old, new, target)
                self.assertEqual((status_of(old, new, target), cause_of(old, new, target)), (status, cause))
                word = status if cause is None else cause[1][0] + " to " + cause[2][0]
                seen[word] = seen.get(word, 0) + 1
            self.check_rebuild(old, new)
        self.assertEqual(sorted(seen), [
            "char to char", "failed to failed", "failed to target", "file to file", "file to missing",
            "list to list", "missing to file", "rebuilt", "replayed", "target to failed", "target to target",
            "unchanged",
        ])


def slow_affected(tree, keys):
    """Return the affected targets by following all references, step by step."""
    rules = dict(tree[1])
    direct = [name for name in rules if any([slow_directly(name, rules[name], key) for key in keys])]
    found = []
    for name in sorted(rules):
        reached = [name]
        for one in reached:
            for part in all_parts(rules[one]):
                if part[0] == "target" and part[1] in rules and part[1] not in reached:
                    reached.append(part[1])
        if [one for one in reached if one in direct]:
            found.append(name)
    return tuple(found)


def slow_directly(name, rule, key):
    parts = all_parts(rule)
    if key[:5] == "file:":
        path = key[5:]
        return any([
            part[0] == "dynamic file" or part in (("file", path), ("optional file", path))
            or (part[0] == "concat files" and path[:len(part[1])] == part[1]) for part in parts
        ])
    return key == "rule:" + name or (key[:5] == "rule:" and ("target", key[5:]) in parts)


class AffectedTest(unittest.TestCase):

    TREE = tree_of(
        (),
        dyn=("slice", ("if", literal(""), ("dynamic file", literal("a")), literal("")), 0, 1),
        file=("if", literal(""), ("file", "a"), ("file", "d/b")),
        list=("concat", literal(""), ("concat files", "d/")),
        name=("find", ("target", "file"), ("target", "gone")),
        opt=("optional file", "a"),
        round=("concat", ("target", "turn"), ("target", "name")),
        turn=("target", "round"),
        zero=literal("a"),
    )

    def check(self, keys, names):
        self.assertEqual(affected_targets(self.TREE, keys), names)
        self.assertEqual(slow_affected(self.TREE, keys), names)

    def test_files(self):
        self.check(("file:a",), ("dyn", "file", "name", "opt", "round", "turn"))
        self.check(("file:d/b",), ("dyn", "file", "list", "name", "round", "turn"))
        self.check(("file:d/",), ("dyn", "list"))
        self.check(("file:d",), ("dyn",))
        self.check(("file:zero",), ("dyn",))

    def test_rules(self):
        self.check(("rule:file",), ("file", "name", "round", "turn"))
        self.check(("rule:gone",), ("name", "round", "turn"))
        self.check(("rule:turn",), ("round", "turn"))
        self.check(("rule:round",), ("round", "turn"))
        self.check(("rule:zero",), ("zero",))
        self.check(("rule:a",), ())

    def test_other_keys(self):
        self.check((), ())
        self.check(("test:file", "page:file", "owners:", "test:a", "page:a"), ())

    def test_several_keys(self):
        self.check(("rule:zero", "owners:", "rule:turn", "rule:zero"), ("round", "turn", "zero"))
        self.assertEqual(affected_targets(tree=self.TREE, keys=("rule:zero",)), ("zero",))
        self.assertEqual(affected_targets(EMPTY, ("file:a", "rule:a")), ())

    def test_the_empty_prefix(self):
        tree = tree_of(FILES, r=("concat files", ""), s=("dynamic file", literal("")))
        self.assertEqual(affected_targets(tree, ("file:new",)), ("r", "s"))

    def test_many_trees(self):
        rng = random.Random(109)
        names = PATHS + TARGETS + ("z",)
        for number in range(300):
            tree = random_tree(rng, 2, number % 2 == 0)
            for _ in range(4):
                keys = tuple([rng.choice(("file:", "rule:", "test:")) + rng.choice(names) for _ in range(rng.randrange(3))])
                self.assertEqual(affected_targets(tree, keys), slow_affected(tree, keys), (tree, keys))
                self.assertTrue(is_plain(affected_targets(tree, keys)))


if __name__ == "__main__":
    unittest.main()
