"""Each name of the interface stands in the file under which it is listed, with its parameters."""

import ast
import importlib
import inspect
import pathlib
import unittest

FOLDER = pathlib.Path(__file__).resolve().parent.parent / "rootfirst"

CLASSES = {
    "errors": {
        "TreeError": ("ValueError", None), "BadValue": ("TreeError", ["name"]), "TooLarge": ("TreeError", ["what"]),
        "NotPossible": ("TreeError", ["why"]), "TextError": ("TreeError", ["column", "words"]),
    },
    "asker": {"Asker": ("object", ["automaton"])},
    "garden": {"Garden": ("object", ["automaton"])},
}

METHODS = {
    ("asker", "Asker"): {"ask": "", "tell": "symbol", "sketch": "", "verdict": "", "take_back": ""},
    ("garden", "Garden"): {
        "act": "command", "undo": "", "automaton": "", "trees": "", "journal": "", "states": "", "good": "",
        "let_in": "depth", "records": "", "twin": "",
    },
}

FUNCTIONS = {
    "trees": {
        "is_arities": "value", "is_tree": "arities value", "is_place": "value", "sizes": "arities tree",
        "places": "arities tree", "part": "arities tree place", "put": "arities tree place other",
        "is_before": "arities first second", "are_equal_to": "arities first second depth",
        "equal_depth": "arities first second", "are_equal_along": "arities first second place depth",
        "graft": "arities first second place",
    },
    "runs": {
        "is_automaton": "value", "tree_state": "automaton tree", "takes": "automaton tree", "run": "automaton tree",
        "accepts_run": "automaton tree value", "fitting": "automaton tree place", "reached": "automaton",
    },
    "reaching": {"state_evidence": "automaton state", "accepts_state": "automaton state value"},
    "listing": {
        "first_tree": "automaton state", "count_state": "automaton state size", "count_good": "automaton size",
        "nth_good": "automaton index", "index_of_good": "automaton tree", "good_from": "automaton index many",
    },
    "totals": {"total_good": "automaton", "total_evidence": "automaton", "accepts_total": "automaton value"},
    "comparing": {
        "telling_tree": "first second", "minimal": "automaton", "both": "first second", "either": "first second",
        "without": "first second", "same_evidence": "first second", "accepts_same": "first second value",
        "within_evidence": "first second", "accepts_within": "first second value",
    },
    "topdown": {
        "is_table": "arities value", "run": "arities table tree", "takers": "arities table tree",
        "received": "arities table",
    },
    "sameness": {
        "telling_tree": "arities first second", "same_evidence": "arities first second",
        "accepts_same": "arities first second value",
    },
    "layers": {"pairs": "automaton depth"},
    "exchange": {
        "is_closed": "automaton depth", "counterexample": "automaton depth size",
        "accepts_counterexample": "automaton depth value",
    },
    "sealing": {"closed_evidence": "automaton depth", "accepts_closed": "automaton depth value"},
    "lookahead": {
        "stable_depth": "automaton", "look_ahead": "automaton", "pair_trees": "automaton depth first second size",
        "accepts_pair": "automaton depth first second value",
    },
    "looking": {"look_evidence": "automaton", "accepts_look": "automaton value"},
    "least": {"least_table": "automaton", "stands_for": "automaton", "is_enough": "automaton"},
    "right": {
        "wrong_tree": "automaton table", "right_evidence": "automaton table", "accepts_right": "automaton table value",
    },
    "closure": {
        "sets_along": "automaton depth tree", "is_let_in": "automaton depth tree", "first_extra": "automaton depth",
    },
    "derivations": {"told_derivation": "automaton depth tree", "derives": "automaton depth tree value"},
    "scanning": {"scan": "text"},
    "reading": {"next_tokens": "text kind", "read_tree": "arities text", "read_automaton": "text"},
    "writing": {"tree_text": "arities tree", "automaton_text": "automaton"},
    "sketches": {
        "is_sketch": "automaton value", "holes": "automaton sketch", "possible_states": "automaton sketch",
        "verdict": "automaton sketch", "matters": "automaton sketch place",
    },
    "verdicts": {
        "first_good": "automaton sketch", "first_bad": "automaton sketch", "verdict_evidence": "automaton sketch",
        "accepts_verdict": "automaton sketch value",
    },
    "journals": {"replayed": "automaton journal", "are_right": "automaton records"},
}


def defined(module):
    """The functions and classes that the file itself defines, by name."""
    tree = ast.parse((FOLDER / (module + ".py")).read_text())
    return {node.name: node for node in tree.body if isinstance(node, (ast.FunctionDef, ast.ClassDef))}


class Interface(unittest.TestCase):
    def test_functions(self):
        for module, listed in FUNCTIONS.items():
            loaded, found = importlib.import_module("rootfirst." + module), defined(module)
            for name, parameters in listed.items():
                with self.subTest(module=module, name=name):
                    self.assertIsInstance(found.get(name), ast.FunctionDef)
                    told = inspect.signature(getattr(loaded, name)).parameters.values()
                    self.assertEqual([one.name for one in told], parameters.split())
                    for one in told:
                        self.assertEqual((one.kind, one.default), (one.POSITIONAL_OR_KEYWORD, one.empty))

    def test_classes(self):
        for module, listed in CLASSES.items():
            loaded, found = importlib.import_module("rootfirst." + module), defined(module)
            for name, (base, parameters) in listed.items():
                with self.subTest(module=module, name=name):
                    self.assertIsInstance(found.get(name), ast.ClassDef)
                    self.assertEqual([one.__name__ for one in getattr(loaded, name).__bases__], [base])
                    if parameters is not None:
                        told = inspect.signature(getattr(loaded, name)).parameters
                        self.assertEqual(list(told), parameters)

    def test_methods(self):
        """Each one is defined in the class itself."""
        for (module, name), listed in METHODS.items():
            loaded, found = importlib.import_module("rootfirst." + module), defined(module)
            own = {node.name for node in found[name].body if isinstance(node, ast.FunctionDef)}
            self.assertEqual(own, set(listed) | {"__init__"})
            for method, parameters in listed.items():
                with self.subTest(name=name, method=method):
                    told = list(inspect.signature(getattr(getattr(loaded, name), method)).parameters.values())[1:]
                    self.assertEqual([one.name for one in told], parameters.split())
                    for one in told:
                        self.assertEqual((one.kind, one.default), (one.POSITIONAL_OR_KEYWORD, one.empty))

    def test_arguments_can_be_named(self):
        from rootfirst.trees import are_equal_along
        told = are_equal_along(depth=1, place=(), second=(0,), first=(0,), arities=(0,))
        self.assertIs(told, True)


if __name__ == "__main__":
    unittest.main()
