"""What holds of the whole program: points 1 to 8."""

import itertools
import pathlib
import re
import unittest

from rootfirst.closure import first_extra, is_let_in, sets_along
from rootfirst.derivations import derives, told_derivation
from rootfirst.errors import TreeError
from rootfirst.exchange import accepts_counterexample, counterexample, is_closed
from rootfirst.layers import pairs
from rootfirst.least import is_enough, least_table, stands_for
from rootfirst.listing import count_good, good_from, nth_good
from rootfirst.lookahead import accepts_pair, look_ahead, pair_trees, stable_depth
from rootfirst.looking import accepts_look, look_evidence
from rootfirst.reading import next_tokens, read_automaton, read_tree
from rootfirst.right import accepts_right, right_evidence, wrong_tree
from rootfirst.runs import accepts_run, fitting, reached, run, takes, tree_state
from rootfirst.sameness import accepts_same, same_evidence, telling_tree
from rootfirst.scanning import scan
from rootfirst.sealing import accepts_closed, closed_evidence
from rootfirst.trees import are_equal_to, graft, is_before, is_tree, part, places, put, sizes
from rootfirst.writing import automaton_text, tree_text
from tests import helpers
from tests.helpers import SWAP, Case, all_trees

FOLDER = pathlib.Path(__file__).resolve().parent.parent / "rootfirst"
EVEN = ((0, 0, 2), (True, False, False), (0, 1, ((0, 1, 2), (1, 0, 2), (2, 2, 2))))
TABLE, NONE = (0, (((), (), (0, 0)),)), (0, ((None, None, None),))
TREE = (2, (0,), (2, (1,), (0,)))
ARITIES = EVEN[0]


class Whole(Case):
    def test_what_a_judge_accepts_is_so(self):
        """Point 1: of all values of the form of a run only the right one is accepted."""
        for tree in all_trees(ARITIES, 3):
            told = [(place, number) for place in [(), (0,), (1,)] for number in range(3)]
            for many in range(4):
                for value in itertools.product(told, repeat=many):
                    if accepts_run(EVEN, tree, value):
                        self.same(value, run(EVEN, tree))

    def test_no_clock_no_chance_no_files(self):
        """Point 2: nothing of the kind is imported or called."""
        for path in sorted(FOLDER.glob("*.py")):
            text = path.read_text()
            self.assertIsNone(re.search("^ *import ", text, re.MULTILINE))
            for line in re.findall("^ *from .*$", text, re.MULTILINE):
                self.assertRegex(line, "^from (rootfirst[.]|heapq |math |itertools |collections )")

    def test_equal_arguments_bring_equal_results(self):
        """Point 2."""
        for _ in range(2):
            self.shows(places(ARITIES, TREE), "[(), (0,), (1,), (1, 0), (1, 1)]")
            self.shows(run(EVEN, TREE), "(((), 1), ((0,), 0), ((1,), 1), ((1, 0), 1), ((1, 1), 0))")
            self.shows(good_from(EVEN, 1, 2), "[(2, (0,), (0,)), (2, (1,), (1,))]")

    def test_tuples_are_tuples_and_lists_are_lists(self):
        """Point 3."""
        for value in (sizes(ARITIES, TREE), part(ARITIES, TREE, (1,)), put(ARITIES, TREE, (0,), TREE),
                      graft(ARITIES, TREE, TREE, (0,)), run(EVEN, TREE), fitting(EVEN, TREE, ()), reached(EVEN),
                      nth_good(EVEN, 0), telling_tree(ARITIES, TABLE, NONE), same_evidence(ARITIES, TABLE, TABLE),
                      pairs(EVEN, 1), counterexample(EVEN, 1, 6), closed_evidence(SWAP, 2),
                      pair_trees(EVEN, 1, 0, 1, 6),
                      look_evidence(EVEN), look_evidence(SWAP), least_table(EVEN), stands_for(EVEN),
                      wrong_tree(EVEN, TABLE), right_evidence(((0, 0, 2), (True,), (0, 0, ((0,),))), TABLE),
                      sets_along(EVEN, 1, TREE), first_extra(EVEN, 1), told_derivation(SWAP, 1, (2, (0,), (0,))),
                      scan("a")[0], read_tree(ARITIES, "a"), read_automaton(automaton_text(EVEN))):
            self.assertIs(type(value), tuple)
        for value in (places(ARITIES, TREE), good_from(EVEN, 0, 1), scan("a"), next_tokens("a", "tree")):
            self.assertIs(type(value), list)
        for value in (tree_text(ARITIES, TREE), automaton_text(EVEN), scan("a")[0][0], next_tokens("a", "tree")[0]):
            self.assertIs(type(value), str)
        for value in (tree_state(EVEN, TREE), count_good(EVEN, 1), stable_depth(EVEN), look_ahead(SWAP)):
            self.assertIs(type(value), int)
        for value in (takes(EVEN, TREE), is_tree(ARITIES, TREE), is_tree(ARITIES, None), is_before(ARITIES, TREE, TREE),
                      are_equal_to(ARITIES, TREE, TREE, 0), accepts_run(EVEN, TREE, None), is_closed(EVEN, 1),
                      is_closed(SWAP, 2), is_enough(EVEN), is_let_in(EVEN, 1, TREE),
                      accepts_same(ARITIES, TABLE, TABLE, same_evidence(ARITIES, TABLE, TABLE)),
                      accepts_same(ARITIES, TABLE, TABLE, ()),
                      accepts_counterexample(EVEN, 1, counterexample(EVEN, 1, 6)),
                      accepts_counterexample(EVEN, 1, None),
                      accepts_closed(SWAP, 2, closed_evidence(SWAP, 2)), accepts_closed(SWAP, 2, None),
                      accepts_pair(EVEN, 1, 0, 1, pair_trees(EVEN, 1, 0, 1, 6)), accepts_pair(EVEN, 1, 0, 1, None),
                      accepts_look(EVEN, look_evidence(EVEN)), accepts_look(SWAP, look_evidence(SWAP)),
                      accepts_look(EVEN, None), accepts_right(EVEN, TABLE, None), accepts_right(EVEN, TABLE, ()),
                      derives(SWAP, 2, (2, (0,), (0,)), None),
                      derives(SWAP, 1, (2, (0,), (0,)), told_derivation(SWAP, 1, (2, (0,), (0,))))):
            self.assertIs(type(value), bool)

    def test_true_and_false_are_no_integers(self):
        """Point 3."""
        self.shows(is_tree((0, 0), (True,)), "False")
        self.bad("depth", are_equal_to, ARITIES, TREE, TREE, True)
        self.bad("place", part, ARITIES, TREE, (True,))
        self.bad("index", nth_good, EVEN, False)
        self.bad("size", count_good, EVEN, True)

    def test_sets_are_ascending(self):
        """Point 4."""
        for automaton in helpers.many_automata(21, 2):
            told = reached(automaton)
            self.assertEqual(list(told), sorted(set(told)))
            for tree in all_trees(automaton[0], 3):
                told = fitting(automaton, tree, ())
                self.assertEqual(list(told), sorted(set(told)))

    def test_the_first_wrong_argument_is_named(self):
        """Point 8."""
        self.bad("arities", graft, None, None, None, None)
        self.bad("first", graft, ARITIES, None, None, None)
        self.bad("second", graft, ARITIES, TREE, None, None)
        self.bad("place", graft, ARITIES, TREE, TREE, None)

    def test_errors_are_tree_errors(self):
        for call in [lambda: graft(None, None, None, None), lambda: graft(ARITIES, TREE, TREE, (1, 1, 1)),
                     lambda: put(ARITIES, helpers.perfect_tree(4), (0, 0, 0), TREE)]:
            with self.assertRaises(TreeError):
                call()


if __name__ == "__main__":
    unittest.main()
