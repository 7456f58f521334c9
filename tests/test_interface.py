"""The interface: which functions there are, where they are defined, and what they are passed."""

import importlib
import inspect
import unittest

FUNCTIONS = {
    "texts": {
        "stamp": "(string, change, start=0)",
        "signs_of": "(text)",
        "find": "(text, wanted)",
        "replace_all": "(text, wanted, new)",
        "origin_runs": "(text)",
    },
    "patterns": {
        "tokens_of": "(pattern)",
        "matches": "(pattern, string)",
        "deciding": "(patterns, string)",
        "common_match": "(first, second)",
    },
    "expressions": {
        "literals_of": "(expression)",
        "references_of": "(expression)",
        "shape_of": "(expression)",
        "fill": "(shape, text)",
        "stamp_expression": "(expression, change, start=0)",
    },
    "rewriting": {
        "rewritings": "(expression)",
        "normalize": "(expression)",
    },
    "hunks": {
        "fits": "(hunks, size)",
        "apply_hunks": "(text, hunks)",
        "touch": "(first, second)",
        "rebase_hunks": "(hunks, over)",
        "merge_hunks": "(first, second)",
        "invert_hunks": "(text, hunks)",
        "compose_hunks": "(size, first, second)",
        "index_before": "(size, hunks, index)",
    },
    "trees": {
        "entry_of": "(pairs, name)",
        "with_entry": "(pairs, name, value)",
        "without_entry": "(pairs, name)",
        "contents_of": "(tree, key)",
        "characters_of": "(tree)",
        "paths_under": "(tree, prefix)",
        "differing_keys": "(old, new)",
    },
    "edits": {
        "key_of": "(edit)",
        "stamp_edits": "(edits, change)",
        "introduced_by": "(edits)",
        "first_inapplicable": "(tree, edits)",
        "apply_edits": "(tree, edits)",
        "invert_edits": "(tree, edits)",
        "edits_conflict": "(first, second)",
        "rebase_edits": "(edits, over)",
    },
    "trunk": {
        "tree_at": "(trunk, revision)",
        "rebase_to_head": "(trunk, revision, edits)",
        "with_earlier": "(trunk, revision, commit)",
        "revert_of": "(trunk, commit)",
        "trunk_without": "(trunk, commit)",
    },
    "history": {
        "locations_of": "(tree, change, index)",
        "lifetime_of": "(trunk, change, index)",
    },
    "evaluation": {
        "evaluate": "(expression, environment)",
    },
    "building": {
        "build": "(tree, target)",
        "environment_of": "(tree, seed=0)",
    },
    "graph": {
        "dependencies_of": "(tree, target)",
        "find_cycle": "(tree)",
        "rank_of": "(tree, target)",
        "build_order": "(tree, targets)",
        "waves": "(tree, targets, workers)",
    },
    "traces": {
        "trace_of": "(expression, environment)",
        "is_valid": "(trace, expression, environment)",
        "replay": "(trace, expression, environment)",
    },
    "rebuilding": {
        "status_of": "(old, new, target)",
        "cause_of": "(old, new, target)",
        "rebuild": "(old, new)",
        "affected_targets": "(tree, keys)",
    },
    "owners": {
        "owners_of": "(owners, key)",
        "approval_counts": "(owners, author, key, person)",
        "missing_approval": "(owners, author, keys, approvals)",
        "minimal_reviewers": "(owners, author, keys, candidates)",
        "required_reviewers": "(owners, author, keys, candidates)",
        "blocking_reviewers": "(owners, author, keys, candidates)",
        "has_direct_access": "(owners, group, key)",
        "takeover_of": "(owners, group, key)",
    },
    "coins": {
        "run_test": "(tree, name, seed)",
        "test_paths": "(tree, name)",
        "count_passes": "(tree, name)",
        "decisive_coins": "(tree, name)",
    },
    "checks": {
        "first_problem": "(tree, threshold)",
        "all_problems": "(tree, threshold)",
        "read_by_check": "(tree)",
        "check_with": "(cache, tree, threshold)",
    },
    "merging": {
        "process": "(trunk, waiting, threshold)",
        "process_in_batches": "(trunk, waiting, threshold, batch_size, cache)",
        "most_mergeable": "(trunk, waiting, threshold)",
    },
    "conditions": {
        "holds": "(condition, on)",
        "flags_of": "(condition)",
        "first_difference": "(first, second)",
        "fix_in_condition": "(condition, flag, value)",
        "relevant_flags": "(condition)",
        "canonical_condition": "(condition)",
    },
    "rings": {
        "bucket_of": "(user, salt)",
        "ring_of": "(bounds, user, salt)",
        "users_below": "(salt, limit, first, count)",
        "next_salt": "(bounds, user, salt, most)",
    },
    "flags": {
        "first_cyclic_flag": "(flags)",
        "representatives_of": "(flags)",
        "enabled_flags": "(flags, user)",
        "distinguishing_user": "(flags, first, second)",
        "audience_of": "(flags, condition)",
    },
    "pages": {
        "shown_parts": "(parts, on)",
        "fix_flag": "(parts, flag, value)",
        "variants_of": "(flags, parts)",
        "affected_user": "(flags, flag, parts)",
    },
    "releases": {
        "make_release": "(tree, revision)",
        "make_release_with": "(cache, tree, revision)",
        "read_for_release": "(tree)",
        "release_text": "(release)",
        "bill_of": "(release)",
    },
    "deltas": {
        "encode_delta": "(old, new)",
        "apply_delta": "(old, delta)",
        "compose_deltas": "(first, second)",
    },
    "rollout": {
        "release_for": "(bounds, states, user)",
    },
    "provenance": {
        "copied_from": "(tree, target, index)",
        "path_of": "(tree, target, index)",
        "is_path": "(tree, steps)",
        "copies_of": "(tree, change, index)",
        "influences_of": "(tree, target)",
    },
}

# For each class what its methods are passed; None stands for a property.
CLASSES = {
    "building": {
        "Builder": {
            "__init__": "(self, tree)",
            "build": "(self, target)",
            "active": None,
            "__len__": "(self)",
        },
    },
    "cache": {
        "Cache": {
            "__init__": "(self, size)",
            "evaluate": "(self, expression, environment)",
            "build": "(self, tree, targets)",
            "copy": "(self)",
            "__len__": "(self)",
            "__iter__": "(self)",
        },
    },
    "rollout": {
        "Rollout": {
            "__init__": "(self, bounds)",
            "cut": "(self)",
            "promote": "(self, release)",
            "block": "(self, release)",
            "release_of": "(self, user)",
            "states": None,
            "table": None,
        },
    },
    "delivery": {
        "Delivery": {
            "__init__": "(self, bounds, *, min_good_users=0, error_budget=1)",
            "cut": "(self)",
            "promote": "(self, release)",
            "block": "(self, release)",
            "serve": "(self, user, page, numbers)",
            "report": "(self, impression, good)",
            "release_of": "(self, user)",
            "good_users": "(self, release, ring)",
            "bad_reports": "(self, release)",
            "promotable": "(self)",
            "states": None,
            "table": None,
            "impressions": None,
        },
    },
    "pipeline": {
        "Config": {
            "__init__": (
                "(self, members, *, threshold=8, rings=(16,), min_good_users=0, error_budget=1, batch_size=1, "
                "cache_size=8)"
            ),
        },
        "Pipeline": {
            "__init__": "(self, config)",
            "execute": "(self, command)",
            "state": "(self)",
            "head": None,
            "journal": None,
            "tree_of": "(self, revision)",
            "release_of": "(self, user)",
            "preview": "(self, count)",
            "served": "(self, impression)",
            "record": "(self, impression, index)",
            "check_record": "(self, impression, index, record)",
            "outputs": "(self)",
            "rebuilt": None,
            "cached": None,
            "executed": None,
        },
    },
    "plain": {
        "PlainPipeline": {
            "__init__": "(self, config)",
            "execute": "(self, command)",
            "state": "(self)",
            "head": None,
            "journal": None,
            "tree_of": "(self, revision)",
            "release_of": "(self, user)",
            "served": "(self, impression)",
            "characters_read": "(self)",
        },
    },
}


class InterfaceTest(unittest.TestCase):

    def test_functions_stand_where_the_interface_lists_them(self):
        for name, functions in FUNCTIONS.items():
            module = importlib.import_module("shiptrace." + name)
            for word, signature in functions.items():
                function = getattr(module, word)
                self.assertTrue(inspect.isfunction(function), word)
                self.assertEqual(function.__module__, "shiptrace." + name, word)
                self.assertEqual(str(inspect.signature(function)), signature, word)

    def test_classes_and_their_own_methods(self):
        for name, classes in CLASSES.items():
            module = importlib.import_module("shiptrace." + name)
            for word, members in classes.items():
                self.assertEqual(getattr(module, word).__module__, "shiptrace." + name, word)
                for member, signature in members.items():
                    self.check_member(vars(getattr(module, word))[member], signature, (word, member))

    def test_the_class_method(self):
        pipeline = importlib.import_module("shiptrace.pipeline").Pipeline
        self.assertIsInstance(vars(pipeline)["replayed"], classmethod)
        self.assertEqual(str(inspect.signature(pipeline.replayed)), "(config, journal)")

    def check_member(self, member, signature, place):
        if signature is None:
            self.assertIsInstance(member, property, place)
            self.assertIsNone(member.fset, place)
        else:
            self.assertEqual(str(inspect.signature(member)), signature, place)


if __name__ == "__main__":
    unittest.main()
