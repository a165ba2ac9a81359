"""What holds of the whole program: points 1 to 8."""

import copy
import importlib
import itertools
import pathlib
import re
import unittest

from rootfirst.asker import Asker
from rootfirst.closure import first_extra, is_let_in, sets_along
from rootfirst.derivations import derives, told_derivation
from rootfirst.errors import BadValue, NotPossible, TextError, TooLarge, TreeError
from rootfirst.exchange import accepts_counterexample, counterexample, is_closed
from rootfirst.garden import Garden
from rootfirst.journals import are_right, replayed
from rootfirst.layers import pairs
from rootfirst.least import is_enough, least_table, stands_for
from rootfirst.listing import count_good, good_from, nth_good
from rootfirst.lookahead import accepts_pair, look_ahead, pair_trees, stable_depth
from rootfirst.looking import accepts_look, look_evidence
from rootfirst.reading import next_tokens, read_automaton, read_tree
from rootfirst.right import accepts_right, right_evidence, wrong_tree
from rootfirst.runs import accepts_run, fitting, reached, run, takes, tree_state
from rootfirst.sameness import accepts_same, same_evidence, telling_tree
from rootfirst.scanning import scan
from rootfirst.sealing import accepts_closed, closed_evidence
from rootfirst.sketches import holes, is_sketch, matters, possible_states, verdict
from rootfirst.trees import are_equal_to, graft, is_before, is_tree, part, places, put, sizes
from rootfirst.verdicts import accepts_verdict, first_bad, first_good, verdict_evidence
from rootfirst.writing import automaton_text, tree_text
from tests import helpers
from tests.helpers import SWAP, Case, all_trees, nested
from tests.test_interface import FUNCTIONS

FOLDER = pathlib.Path(__file__).resolve().parent.parent / "rootfirst"
EVEN = ((0, 0, 2), (True, False, False), (0, 1, ((0, 1, 2), (1, 0, 2), (2, 2, 2))))
TABLE, NONE = (0, (((), (), (0, 0)),)), (0, ((None, None, None),))
TREE = (2, (0,), (2, (1,), (0,)))
ARITIES = EVEN[0]
SKETCH, DERIVED = (2, None, (0,)), (2, (0,), (0,))
RECORDS = ((("put", (0,)), (0,)), (("good", 0, True), (0,)))

# Arguments with which each function of the interface returns something.
CALLS = {
    "trees": {
        "is_arities": (ARITIES,), "is_tree": (ARITIES, TREE), "is_place": ((0, 1),), "sizes": (ARITIES, TREE),
        "places": (ARITIES, TREE), "part": (ARITIES, TREE, (1,)), "put": (ARITIES, TREE, (0,), TREE),
        "is_before": (ARITIES, (0,), TREE), "are_equal_to": (ARITIES, TREE, (0,), 1),
        "equal_depth": (ARITIES, TREE, DERIVED), "are_equal_along": (ARITIES, TREE, DERIVED, (1,), 1),
        "graft": (ARITIES, TREE, DERIVED, (1,)),
    },
    "runs": {
        "is_automaton": (EVEN,), "tree_state": (EVEN, TREE), "takes": (EVEN, TREE), "run": (EVEN, TREE),
        "accepts_run": (EVEN, (1,), (((), 1),)), "fitting": (EVEN, TREE, (1,)), "reached": (EVEN,),
    },
    "reaching": {"state_evidence": (EVEN, 1), "accepts_state": (EVEN, 1, ("some", (1,)))},
    "listing": {
        "first_tree": (EVEN, 1), "count_state": (EVEN, 1, 5), "count_good": (EVEN, 5), "nth_good": (EVEN, 7),
        "index_of_good": (EVEN, DERIVED), "good_from": (EVEN, 2, 5),
    },
    "totals": {"total_good": (SWAP,), "total_evidence": (SWAP,), "accepts_total": (SWAP, ("total", 2, (0, 1, 2)))},
    "comparing": {
        "telling_tree": (EVEN, EVEN[:1] + ((False,) * 3,) + EVEN[2:]), "minimal": (EVEN,), "both": (EVEN, SWAP),
        "either": (EVEN, SWAP), "without": (EVEN, SWAP), "same_evidence": (EVEN, EVEN),
        "accepts_same": (EVEN, EVEN, ((0, 0), (1, 1))), "within_evidence": (EVEN, EVEN),
        "accepts_within": (EVEN, EVEN, ((0, 0), (1, 1))),
    },
    "topdown": {
        "is_table": (ARITIES, TABLE), "run": (ARITIES, TABLE, TREE), "takers": (ARITIES, TABLE, TREE),
        "received": (ARITIES, TABLE),
    },
    "sameness": {
        "telling_tree": (ARITIES, TABLE, NONE), "same_evidence": (ARITIES, TABLE, TABLE),
        "accepts_same": (ARITIES, TABLE, TABLE, (((0,), (0,)),)),
    },
    "layers": {"pairs": (SWAP, 1)},
    "exchange": {
        "is_closed": (SWAP, 2), "counterexample": (SWAP, 1, 3),
        "accepts_counterexample": (SWAP, 1, ((2, (0,), (1,)), (2, (1,), (0,)), (0,))),
    },
    "sealing": {"closed_evidence": (SWAP, 2), "accepts_closed": (SWAP, 2, closed_evidence(SWAP, 2))},
    "lookahead": {
        "stable_depth": (SWAP,), "look_ahead": (SWAP,), "pair_trees": (SWAP, 1, 2, 3, 3),
        "accepts_pair": (SWAP, 1, 2, 3, ((2, (1,), (0,)), (2, (1,), (1,)))),
    },
    "looking": {"look_evidence": (SWAP,), "accepts_look": (SWAP, look_evidence(SWAP))},
    "least": {"least_table": (SWAP,), "stands_for": (SWAP,), "is_enough": (SWAP,)},
    "right": {
        "wrong_tree": (SWAP, TABLE), "right_evidence": (((0, 0, 2), (True,), (0, 0, ((0,),))), TABLE),
        "accepts_right": (((0, 0, 2), (True,), (0, 0, ((0,),))), TABLE, ((0, (0,)),)),
    },
    "closure": {"sets_along": (SWAP, 1, DERIVED), "is_let_in": (SWAP, 1, DERIVED), "first_extra": (SWAP, 1)},
    "derivations": {
        "told_derivation": (SWAP, 1, DERIVED), "derives": (SWAP, 1, DERIVED, told_derivation(SWAP, 1, DERIVED)),
    },
    "scanning": {"scan": ("c(a, b)",)},
    "reading": {
        "next_tokens": ("c(a", "tree"), "read_tree": (ARITIES, "c(a, b)"), "read_automaton": ("1: a = 0 | 0",),
    },
    "writing": {"tree_text": (ARITIES, TREE), "automaton_text": (EVEN,)},
    "sketches": {
        "is_sketch": (EVEN, SKETCH), "holes": (EVEN, SKETCH), "possible_states": (EVEN, SKETCH),
        "verdict": (EVEN, SKETCH), "matters": (EVEN, SKETCH, (0,)),
    },
    "verdicts": {
        "first_good": (EVEN, SKETCH), "first_bad": (EVEN, SKETCH), "verdict_evidence": (EVEN, SKETCH),
        "accepts_verdict": (EVEN, SKETCH, ("open", DERIVED, (2, (1,), (0,)))),
    },
    "journals": {"replayed": (EVEN, (("put", (0,)),)), "are_right": (EVEN, RECORDS)},
}
# The parameters for which every value is valid, of functions that are told so.
FREE = ("value", "records")
NOT_CHECKED = [("trees", "is_tree"), ("sketches", "is_sketch")]


class Whole(Case):
    def test_what_a_judge_accepts_is_so(self):
        """Point 1: of all values of the form of a run only the right one is accepted."""
        for tree in all_trees(ARITIES, 3):
            told = [(place, number) for place in [(), (0,), (1,)] for number in range(3)]
            for many in range(4):
                for value in itertools.product(told, repeat=many):
                    if accepts_run(EVEN, tree, value):
                        self.same(value, run(EVEN, tree))

    def test_no_clock_no_chance_no_files(self):
        """Point 2: nothing of the kind is imported or called."""
        for path in sorted(FOLDER.glob("*.py")):
            text = path.read_text()
            self.assertIsNone(re.search("^ *import ", text, re.MULTILINE))
            for line in re.findall("^ *from .*$", text, re.MULTILINE):
                self.assertRegex(line, "^from (rootfirst[.]|heapq |math |itertools |collections )")

    def test_equal_arguments_bring_equal_results(self):
        """Point 2."""
        for _ in range(2):
            self.shows(places(ARITIES, TREE), "[(), (0,), (1,), (1, 0), (1, 1)]")
            self.shows(run(EVEN, TREE), "(((), 1), ((0,), 0), ((1,), 1), ((1, 0), 1), ((1, 1), 0))")
            self.shows(good_from(EVEN, 1, 2), "[(2, (0,), (0,)), (2, (1,), (1,))]")

    def test_tuples_are_tuples_and_lists_are_lists(self):
        """Point 3."""
        for value in (sizes(ARITIES, TREE), part(ARITIES, TREE, (1,)), put(ARITIES, TREE, (0,), TREE),
                      graft(ARITIES, TREE, TREE, (0,)), run(EVEN, TREE), fitting(EVEN, TREE, ()), reached(EVEN),
                      nth_good(EVEN, 0), telling_tree(ARITIES, TABLE, NONE), same_evidence(ARITIES, TABLE, TABLE),
                      pairs(EVEN, 1), counterexample(EVEN, 1, 6), closed_evidence(SWAP, 2),
                      pair_trees(EVEN, 1, 0, 1, 6),
                      look_evidence(EVEN), look_evidence(SWAP), least_table(EVEN), stands_for(EVEN),
                      wrong_tree(EVEN, TABLE), right_evidence(((0, 0, 2), (True,), (0, 0, ((0,),))), TABLE),
                      sets_along(EVEN, 1, TREE), first_extra(EVEN, 1), told_derivation(SWAP, 1, (2, (0,), (0,))),
                      scan("a")[0], read_tree(ARITIES, "a"), read_automaton(automaton_text(EVEN)),
                      holes(EVEN, SKETCH), possible_states(EVEN, SKETCH), first_good(EVEN, SKETCH),
                      first_bad(EVEN, SKETCH), verdict_evidence(EVEN, SKETCH), verdict_evidence(SWAP, (0,))):
            self.assertIs(type(value), tuple)
        for value in (places(ARITIES, TREE), good_from(EVEN, 0, 1), scan("a"), next_tokens("a", "tree")):
            self.assertIs(type(value), list)
        for value in (tree_text(ARITIES, TREE), automaton_text(EVEN), scan("a")[0][0], next_tokens("a", "tree")[0],
                      verdict(EVEN, SKETCH), Asker(EVEN).verdict()):
            self.assertIs(type(value), str)
        for value in (tree_state(EVEN, TREE), count_good(EVEN, 1), stable_depth(EVEN), look_ahead(SWAP)):
            self.assertIs(type(value), int)
        for value in (takes(EVEN, TREE), is_tree(ARITIES, TREE), is_tree(ARITIES, None), is_before(ARITIES, TREE, TREE),
                      are_equal_to(ARITIES, TREE, TREE, 0), accepts_run(EVEN, TREE, None), is_closed(EVEN, 1),
                      is_closed(SWAP, 2), is_enough(EVEN), is_let_in(EVEN, 1, TREE),
                      accepts_same(ARITIES, TABLE, TABLE, same_evidence(ARITIES, TABLE, TABLE)),
                      accepts_same(ARITIES, TABLE, TABLE, ()),
                      accepts_counterexample(EVEN, 1, counterexample(EVEN, 1, 6)),
                      accepts_counterexample(EVEN, 1, None),
                      accepts_closed(SWAP, 2, closed_evidence(SWAP, 2)), accepts_closed(SWAP, 2, None),
                      accepts_pair(EVEN, 1, 0, 1, pair_trees(EVEN, 1, 0, 1, 6)), accepts_pair(EVEN, 1, 0, 1, None),
                      accepts_look(EVEN, look_evidence(EVEN)), accepts_look(SWAP, look_evidence(SWAP)),
                      accepts_look(EVEN, None), accepts_right(EVEN, TABLE, None), accepts_right(EVEN, TABLE, ()),
                      derives(SWAP, 2, (2, (0,), (0,)), None), is_sketch(EVEN, SKETCH), is_sketch(EVEN, 0),
                      matters(EVEN, SKETCH, (0,)), accepts_verdict(EVEN, SKETCH, None),
                      accepts_verdict(EVEN, SKETCH, verdict_evidence(EVEN, SKETCH)), are_right(EVEN, RECORDS),
                      are_right(EVEN, None),
                      derives(SWAP, 1, (2, (0,), (0,)), told_derivation(SWAP, 1, (2, (0,), (0,))))):
            self.assertIs(type(value), bool)

    def test_true_and_false_are_no_integers(self):
        """Point 3."""
        self.shows(is_tree((0, 0), (True,)), "False")
        self.bad("depth", are_equal_to, ARITIES, TREE, TREE, True)
        self.bad("place", part, ARITIES, TREE, (True,))
        self.bad("index", nth_good, EVEN, False)
        self.bad("size", count_good, EVEN, True)

    def test_sets_are_ascending(self):
        """Point 4."""
        for automaton in helpers.many_automata(21, 2):
            told = reached(automaton)
            self.assertEqual(list(told), sorted(set(told)))
            for tree in all_trees(automaton[0], 3):
                told = fitting(automaton, tree, ())
                self.assertEqual(list(told), sorted(set(told)))

    def test_the_first_wrong_argument_is_named(self):
        """Point 8."""
        self.bad("arities", graft, None, None, None, None)
        self.bad("first", graft, ARITIES, None, None, None)
        self.bad("second", graft, ARITIES, TREE, None, None)
        self.bad("place", graft, ARITIES, TREE, TREE, None)

    def test_errors_are_tree_errors(self):
        """Point 8: those of all kinds."""
        every = (ARITIES, (True,), (0, 0, ((0,),)))
        for kind, call in [
            (BadValue, lambda: graft(None, None, None, None)),
            (NotPossible, lambda: graft(ARITIES, TREE, TREE, (1, 1, 1))),
            (TooLarge, lambda: put(ARITIES, helpers.perfect_tree(4), (0, 0, 0), TREE)),
            (TextError, lambda: scan("?")), (TextError, lambda: read_tree(ARITIES, "c(a")),
            (NotPossible, lambda: Garden(EVEN).act(("take", 0))), (NotPossible, lambda: Asker(every).tell(0)),
            (BadValue, lambda: replayed(EVEN, None)), (BadValue, lambda: Asker(((1,), (True,), ((0,),)))),
            (TooLarge, lambda: first_bad(((0, 1), (True, False), (0, (1, 0))), helpers.nested_tree(14, None))),
            (BadValue, lambda: tree_text(ARITIES, (1, (0,)))),
        ]:
            with self.assertRaises(TreeError) as caught:
                call()
            self.assertIs(type(caught.exception), kind)
            self.assertIsInstance(caught.exception, ValueError)


class EachFunction(Case):
    def each(self):
        for module, listed in CALLS.items():
            for name, arguments in listed.items():
                function = getattr(importlib.import_module("rootfirst." + module), name)
                with self.subTest(module=module, name=name):
                    yield module, name, function, arguments

    def test_all_are_called_here(self):
        self.assertEqual({module: set(listed) for module, listed in CALLS.items()},
                         {module: set(listed) for module, listed in FUNCTIONS.items()})

    def test_arguments_stay_and_equal_calls_return_equal_results(self):
        """Point 2: also after what was returned is changed."""
        lists = 0
        for module, name, function, arguments in self.each():
            before, told = repr(arguments), function(*arguments)
            if isinstance(told, Garden):
                self.same(function(*arguments).records(), told.records())
                continue
            shown = repr(told)
            self.assertIsNotNone(told)
            if isinstance(told, list):
                told.append(None)
                told.reverse()
                lists += 1
            self.shows(function(*copy.deepcopy(arguments)), shown)
            self.shows(function(*arguments), shown)
            self.assertEqual(repr(arguments), before)
        self.assertEqual(lists, 4)

    def test_lists_that_are_handed_in_stay(self):
        """Point 2: what is no value of the right form is not changed either."""
        def as_lists(value):
            return [as_lists(one) for one in value] if isinstance(value, tuple) else value
        for module, name, function, arguments in self.each():
            for at in range(len(arguments)):
                if not isinstance(arguments[at], tuple):
                    continue
                handed = list(arguments)
                handed[at] = as_lists(arguments[at])
                before = repr(handed)
                if FUNCTIONS[module][name].split()[at] in FREE:
                    self.shows(function(*handed), "False")
                elif (module, name) not in NOT_CHECKED:
                    self.bad(FUNCTIONS[module][name].split()[at], function, *handed)
                self.assertEqual(repr(handed), before)

    def test_every_value_is_valid_where_it_is_said(self):
        """Points 8 and 1: a judge refuses no value, and accepts none of another form."""
        for module, name, function, arguments in self.each():
            parameters = FUNCTIONS[module][name].split()
            if parameters[-1] in FREE:
                for value in [None, True, False, 0, -1, 10 ** 40, "", "some", [], [()], nested(3000), helpers.DEEP_LIST,
                              (helpers.DEEP,) * 3, ("", None), (True,), (None, None, None), ({},), ("enough", 1, ())]:
                    told = function(*arguments[:-1], value)
                    self.shows(told, "True" if value is None and name == "is_sketch" else "False")

    def test_wrong_arguments_are_named_in_order(self):
        """Point 8: of several wrong ones the first, each completely ahead of the next one."""
        refused = 0
        for module, name, function, arguments in self.each():
            parameters = FUNCTIONS[module][name].split()
            if (module, name) in NOT_CHECKED:
                continue
            checked = [at for at, parameter in enumerate(parameters) if parameter not in FREE]
            for at in checked:
                handed = list(arguments)
                handed[at:] = [object()] * (len(arguments) - at)
                self.bad(parameters[at], function, *handed)
                refused += 1
        self.assertGreater(refused, 120)


if __name__ == "__main__":
    unittest.main()
