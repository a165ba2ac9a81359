"""The texts of trees and automata: points 111 to 114, and rootfirst/writing.py."""

import itertools
import random
import re
import unittest

from rootfirst.reading import next_tokens, read_automaton, read_tree
from rootfirst.scanning import scan
from rootfirst.writing import automaton_text, tree_text
from tests import helpers
from tests.helpers import (
    MANY_ARITIES, Case, all_trees, entry_state, many_automata, nested_tree, perfect_tree, random_automaton, symbols,
)

MIXED = ((0, 1, 2), (True, False), (0, (1, 0), ((0, 1), (1, 0))))


def plain_steps(automaton):
    """Point 111: the texts of the steps, symbol by symbol, in the order of the states."""
    found = []
    for letter, arity, entry in zip("abcd", automaton[0], automaton[2]):
        for states in sorted(itertools.product(range(len(automaton[1])), repeat=arity)):
            inside = "(%s)" % ", ".join(map(str, states)) if states else ""
            found.append("%s%s = %d" % (letter, inside, entry_state(entry, states)))
    return found


class Trees(Case):
    def test_the_interface_and_point_114(self):
        self.shows(tree_text((0, 0, 2), (2, (0,), (2, (1,), (0,)))), "'c(a, c(b, a))'")
        self.shows(tree_text((0, 1, 2), (2, (0,), (1, (0,)))), "'c(a, b(a))'")

    def test_letters_and_parentheses(self):
        self.shows([tree_text((0, 0, 0, 0), (symbol,)) for symbol in range(4)], "['a', 'b', 'c', 'd']")
        self.shows((tree_text((1, 0), (0, (1,))), tree_text((0, 2, 0, 1), (1, (3, (2,)), (1, (0,), (2,))))),
                   "('a(b)', 'b(d(c), b(a, c))')")

    def test_no_blanks_but_for_one_behind_each_comma(self):
        for arities in MANY_ARITIES:
            for tree in all_trees(arities, 6)[:100]:
                text = tree_text(arities, tree)
                self.assertEqual(text.replace(", ", ",").count(" "), 0)
                self.assertEqual(text.count(","), text.count(", "))
                self.assertEqual([letter for letter in text if letter in "abcd"],
                                 ["abcd"[symbol] for symbol in symbols(tree)])
                self.same(read_tree(arities, text), tree)
                self.shows(next_tokens(text, "tree")[-1], "'the end'")

    def test_trees_of_15_nodes(self):
        self.shows(tree_text((0, 1), nested_tree(14)), repr("b(" * 14 + "a" + ")" * 14))
        self.same(read_tree((0, 1, 2), tree_text((0, 1, 2), perfect_tree(4))), perfect_tree(4))
        self.bad("tree", tree_text, (0, 1), nested_tree(15))


class Automata(Case):
    def test_the_interface(self):
        self.shows(automaton_text(((0, 2), (True, False), (0, ((1, 0), (0, 0))))),
                   "'2: a = 0; b(0, 0) = 1; b(0, 1) = 0; b(1, 0) = 0; b(1, 1) = 0 | 0'")

    def test_word_by_word(self):
        for automaton in many_automata(941, 2):
            good = "".join([" %d" % state for state, flag in enumerate(automaton[1]) if flag])
            wanted = "%d: %s |%s" % (len(automaton[1]), "; ".join(plain_steps(automaton)), good)
            self.same(automaton_text(automaton), wanted)
            self.same(read_automaton(wanted), automaton)

    def test_without_and_with_all_states_good(self):
        self.shows(automaton_text(((0,), (False,), (0,))), "'1: a = 0 |'")
        self.shows(automaton_text(((0,), (True,), (0,))), "'1: a = 0 | 0'")
        self.shows(automaton_text(((1, 0), (True, True, False, True), ((3, 2, 1, 0), 2))),
                   "'4: a(0) = 3; a(1) = 2; a(2) = 1; a(3) = 0; b = 2 | 0 1 3'")
        self.shows(automaton_text(MIXED),
                   "'2: a = 0; b(0) = 1; b(1) = 0; c(0, 0) = 0; c(0, 1) = 1; c(1, 0) = 1; c(1, 1) = 0 | 0'")

    def test_the_longest_one_is_a_text(self):
        automaton = random_automaton(random.Random(942), (2, 2, 2, 2), 4)
        text = automaton_text((automaton[0], (True,) * 4, automaton[2]))
        self.assertEqual((len(re.findall("=", text)), text[-8:]), (64, " 0 1 2 3"))
        self.assertLessEqual(len(text), 1000)
        self.same(read_automaton(text), (automaton[0], (True,) * 4, automaton[2]))
        self.shows(scan(text)[-1], repr(("end", "", len(text) + 1)))

    def test_steps_and_good_states_in_another_sequence(self):
        """Point 112."""
        chance = random.Random(943)
        for automaton in many_automata(944, 1):
            steps, good = plain_steps(automaton), [str(state) for state, flag in enumerate(automaton[1]) if flag]
            chance.shuffle(steps)
            chance.shuffle(good)
            text = "%d: %s | %s" % (len(automaton[1]), "; ".join(steps), " ".join(good))
            self.same(read_automaton(text), automaton)
            self.same(automaton_text(read_automaton(text)), automaton_text(automaton))


class WrongArguments(Case):
    def test_each_is_refused_by_its_name_and_the_first_of_several(self):
        """Points 8 and 113."""
        self.refuses_in_order(tree_text, ((0, 1, 2), (0,)),
                              [("arities", helpers.WRONG_ARITIES), ("tree", helpers.WRONG_TREES)])
        self.refuses_in_order(automaton_text, (MIXED,), [("automaton", helpers.WRONG_AUTOMATA)])

    def test_no_tree_for_other_arities(self):
        self.bad("tree", tree_text, (0,), (1,))
        self.bad("tree", tree_text, (1, 2), (0, (0,)))
        self.bad("automaton", automaton_text, ((0, 1), (True,) * 5, (0, (0,) * 5)))

    def test_equal_calls_return_equal_results(self):
        for _ in range(2):
            self.shows(tree_text((0, 1), (1, (0,))), "'b(a)'")
            self.shows(automaton_text(((0, 1), (True,), (0, (0,)))), "'1: a = 0; b(0) = 0 | 0'")


if __name__ == "__main__":
    unittest.main()
